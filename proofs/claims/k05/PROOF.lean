import PyProof.Rows.All
import Wide.All
import OpenK.AllK
import Wide.FinOn
import KE.KExcIs
import KE.KEqDict
import PyProof.NeKinds
import HandS.ForMost
import HandS.Exc
import HandS.ExcInit
import HandS.ExcField
import HandS.IsInst
import HandS.DeepEq
import HandS.ExcIs
import HandS.SetFor
import KE.KDictLaw
import HandS.Style
import HandS.Star
import KE.GoesMore
import HandS.Walk
import HandS.Set
import HandS.Strs
import HandS.SetBool
import HandS.OwnEq
import HandS.Defaults
import HandS.HeadHook2
import PySem.Challenge.RW_putoffpiles_k05_whole_first_wrong_lines
import HandS.RevTup
import PyProof.Rows.SortShellAny
import HandS.Steps
import HandS.TryMany
import HandS.ExcValue
import HandS.TryOnly
import HandS.WordsExc
import HandS.TupMul
import HandS.TupAny
import HandS.Zip
import HandS.WordsDict
import HandS.Iter
import HandS.Text
import KE.GoesEnumKw
import KE.KUnpackStar
import HandS.FStr
import HandS.RaiseMore
import HandS.StrMore
import KE.IntTextLaws
import HandS.Replace
import HandS.Head0
import HandS.Head1
import HandS.Head2
import HandS.HeadEnd
import HandS.HeadHook1
set_option Elab.async false
set_option linter.all false
set_option maxRecDepth 100000
set_option maxHeartbeats 2000000
/-! Rules of my own: an own exception as a value (made, its field read, isinstance), and != of a thing and itself. -/
namespace ZX
open PySem PySem.Spec PyProof.Rows L2

/-- C(e, ..) as a value, C's own __init__ keeping sp -/
def tMkV (C : Addr) (sp : Sp) (ta : TA) : TE := fun σ H Q => ta σ H fun vs H1 => vs.length ≤ 1000 ∧ ∀ a, H1 a = none → sp (.ref a :: vs) (upd H1 a (exo a C none)) (fun v H2 => v = .non ∧ Q (.ref a) H2) (fun _ _ _ => False)
section
variable {X : Cx} {o e : Expr} {es : List Expr} {to te : TE} {ta : TA} {f x : Str} {p p' p1 p2 pos : Pos} {C fI : Addr} {k : Nat} {fd : FuncData} {ps : List Str} {sp : Sp}
theorem run_oex {pins : List (Addr × Obj)} {s1 : Shared} {σ : L2.St} {H1 : Hp} {Q : VK} {us : List Value} {vs : List V} (T : OexC X.K C) (iC : PySem.W.findIn X.K (.ref C) "__init__" = some (some (.ref fI))) (tI : PySem.W.typeIn X.K (.ref fI) = some (.type "function"))
    (F1 : FnOk X.prog X.w X.K X.mg X.base CX0 k fI fd ps sp) (hr : Room (k + 1) X.A) (hb : Binds X.K fd ps []) (I1 : Inv X pins σ H1 s1) (r1 : Vals vs us) (hz : vs.length ≤ 1000)
    (q1 : ∀ a, H1 a = none → sp (.ref a :: vs) (upd H1 a (exo a C none)) (fun v H2 => v = .non ∧ Q (.ref a) H2) (fun _ _ _ => False)) :
    wpAny (model X.prog X.w) X.A (call (.ref C) us) (EP X pins σ Q) X.xe s1 := by
  obtain ⟨nm, q, N, bs, bm, sn, sub, ab, col, dd, k0, k1, k2, k3, k5, hC, hbm⟩ := T.cls
  obtain ⟨hp, g, dr, tk, os⟩ := s1
  have hsz : hp.objs.size ≤ hp.objs.size + 1 := Nat.le_succ _
  have hn : H1 (hp.objs.size + 1) = none := I1.hok.fresh hsz
  have hq := q1 (hp.objs.size + 1) hn
  have kk : ∀ b o, hp.get? b = some o → ((hp.push (PySem.W.kdv_tup us)).push (PySem.HandSPX.excO C hp.objs.size)).get? b = some o := fun b o e => Heap.get?_push_of_some _ (Heap.get?_push_of_some _ e)
  have hget : ((hp.push (PySem.W.kdv_tup us)).push (PySem.HandSPX.excO C hp.objs.size)).get? (hp.objs.size + 1) = some (PySem.HandSPX.excO C hp.objs.size) := by heap_get
  have I2 : Inv X pins σ (upd H1 (hp.objs.size + 1) (exo (hp.objs.size + 1) C none)) ⟨(hp.push (PySem.W.kdv_tup us)).push (PySem.HandSPX.excO C hp.objs.size), g, dr, tk, os⟩ :=
    I1.laid (t' := tk) (a := hp.objs.size + 1) (o := exo (hp.objs.size + 1) C none) (h' := (hp.push (PySem.W.kdv_tup us)).push (PySem.HandSPX.excO C hp.objs.size)) kk hsz (exo_ok hget)
  have hq2 : sp (.ref (hp.objs.size + 1) :: (vs ++ [])) (upd H1 (hp.objs.size + 1) (exo (hp.objs.size + 1) C none)) (fun v H2 => v = .non ∧ Q (.ref (hp.objs.size + 1)) H2) (fun _ _ _ => False) := by
    rw [List.append_nil]
    exact hq
  have r2 : Vals (V.ref (hp.objs.size + 1) :: (vs ++ [])) (Value.ref (hp.objs.size + 1) :: (us ++ [])) := .cons rfl (r1.append .nil)
  have hl : (Value.ref (hp.objs.size + 1) :: us ++ []).length = ps.length := by
    have e := r2.length
    rw [F1.len _ _ _ _ hq2] at e
    exact e.symm
  have hus : us.length ≤ sizeLine := by
    rw [← Paired.length r1, sizeLine_eq]
    omega
  have hbz := hb ⟨(hp.push (PySem.W.kdv_tup us)).push (PySem.HandSPX.excO C hp.objs.size), g, dr, tk, os⟩ (Value.ref (hp.objs.size + 1) :: us) I2.kIn hl
  rw [List.cons_append] at hbz
  refine wpAny_call (PySem.HandSPX.call_own F.excBase_ValueError (fun Y => PySem.HandSPX.refsVE_contains Y bm hbm) (I1.kIn _ _ hC) (PySem.W.looks_findIn I1.kIn iC) (fun self => PySem.W.bind_fn I1.kIn self tI) hus
    (codeAny_mono (F1.run _ X.stack _ _ ⟨Value.ref (hp.objs.size + 1) :: us, []⟩ (Value.ref (hp.objs.size + 1) :: (us ++ [])) _ _ (fun _ _ _ => False) (hr.make C us []) (I2.env0.make C us []) hbz r2 hq2) fun r s' hq' => ?_))
  cases r with
  | error er => exact False.elim hq'
  | ok fl =>
    cases fl with
    | ret u =>
      obtain ⟨v, H2, os2, bare2, un2, hok2, rv, ev, q2⟩ := hq'
      subst ev
      obtain ⟨h2, g2, d2, t2, os'⟩ := s'
      exact ⟨rv, .ref _, H2, I2.call' (ch := []) os2 un2 hok2 bare2 (fun b z => absurd z (by simp)), rfl, q2⟩
    | next => exact False.elim hq'
    | brk => exact False.elim hq'
    | cont => exact False.elim hq'
theorem pe_oex (T : OexC X.K C) (iC : PySem.W.findIn X.K (.ref C) "__init__" = some (some (.ref fI))) (tI : PySem.W.typeIn X.K (.ref fI) = some (.type "function"))
    (F1 : FnOk X.prog X.w X.K X.mg X.base CX0 k fI fd ps sp) (hr : Room (k + 1) X.A) (hb : Binds X.K fd ps []) (hg : Gl X x) (hm : X.mg x = some (.ref C)) (ha : PA X (e :: es) ta)
    (hdb : (x == ("__debug__" : Str)) = false := by decide) (he : starEach (e :: es) X.env = (false, eval e X.env) :: starEach es X.env := by rfl) (hpl : (backTo pos (starEach es X.env)).any (·.1) = false := by rfl) :
    PE X (.Call (.Name x p) (e :: es) [] pos) (tMkV C sp ta) := by
  refine ⟨fun pins s σ H Q I h => ?_⟩
  refine wpAny_Call_Name_kw (ld_glob I hg hm ?_ hdb)
  refine PySem.W.callWith_K (h₀ := X.base) I.ok.mod.kin T.kC (thn (ha.run pos pins s σ H _ I h) fun us s1 ⟨vs, H1, I1, r1, hz, q1⟩ => ⟨I1.kIn, ?_⟩) he hpl
  exact run_oex T iC tI F1 hr hb I1 r1 hz q1
theorem pe_oex0 (T : OexC X.K C) (iC : PySem.W.findIn X.K (.ref C) "__init__" = some (some (.ref fI))) (tI : PySem.W.typeIn X.K (.ref fI) = some (.type "function"))
    (F1 : FnOk X.prog X.w X.K X.mg X.base CX0 k fI fd ps sp) (hr : Room (k + 1) X.A) (hb : Binds X.K fd ps []) (hg : Gl X x) (hm : X.mg x = some (.ref C))
    (hdb : (x == ("__debug__" : Str)) = false := by decide) :
    PE X (.Call (.Name x p) [] [] pos) (tMkV C sp tNil) := by
  refine ⟨fun pins s σ H Q I h => ?_⟩
  refine wpAny_Call_Name_kw (ld_glob I hg hm ?_ hdb)
  exact PySem.W.callWith_K0 I.kIn T.kC (run_oex (us := []) (vs := []) T iC tI F1 hr hb I .nil h.1 h.2)

/-- e.f of an exception that stands as a value -/
def tXv (K : PySem.W.Frag) (f : Str) (te : TE) : TE := fun σ H Q => te σ H fun x H1 => ∃ (a C dd : Addr) (fs : List (Str × V)) (v : V), x = .ref a ∧ XfC K C ∧ PySem.W.findIn K (.ref C) f = some none ∧ H1 a = some (exo a C (some dd)) ∧ H1 dd = some (exd dd fs) ∧ fs.lookup f = some v ∧ Q v H1
theorem pe_xv (he : PE X e te) (hb : attributeBase e f X.env (eval e X.env) = eval e X.env := by rfl) : PE X (.Attribute e f pos) (tXv X.K f te) := by
  refine ⟨fun pins s σ H Q I h => ?_⟩
  refine attr_of hb (thn (he.run pins s σ H _ I h) fun u s1 hh => ?_)
  obtain ⟨x, H1, I1, rx, a, C, dd, fs, v, ex, T, hno, ea, ed, l, q⟩ := hh
  subst ex
  obtain rfl : u = Value.ref a := rx
  obtain ⟨t1, ha⟩ := exo_at I1.hok ea
  obtain ⟨mA, hns, hr⟩ := exd_at I1.hok ed
  obtain ⟨od, ho, hl⟩ := lookIn_ns hns
  obtain ⟨u, hu, ru⟩ := RelO.some_of (v := v) (o := mA f) (by rw [← l]; exact hr f)
  have J : PySem.W.InstAt s1.heap a _ C (some od) := ⟨ha, rfl, rfl, ho⟩
  exact HandSPX.exc_get I1.kIn J T.ga T.gg T.exC (PySem.W.findObj_own T.hdC hno rfl (by rw [hl, hu])) (handed_of ru) ⟨v, H1, I1.tok _, ru, q⟩

/-- isinstance(e, c), e an exception that stands as a value -/
def rIsV (K : PySem.W.Frag) : List V → Hp → VK → Prop := fun xs H Q => ∃ (a D : Addr) (c : V) (cv : Value) (b : Bool), xs = [.ref a, c] ∧ L2.ExcC K D ∧ ((H a = some (exo a D none)) ∨ ∃ dd fs, H a = some (exo a D (some dd)) ∧ H dd = some (exd dd fs)) ∧ ClsV c cv ∧ PySem.W.kitOne K (.ref D) cv = some b ∧ Q (.bl b) H
theorem call_isV : CallR X (.builtin "isinstance") (rIsV X.K) := by
  intro pins s σ H xs us Q I r h
  obtain ⟨a, D, c, cv, b, rfl, C, ha, hc, e, q⟩ := h
  obtain ⟨u1, u2, rfl, r1, r2⟩ := vals2 r
  have ec := hc.eq r2
  subst ec
  cases (show u1 = Value.ref a from r1)
  have hcl : (PySem.W.clsIn X.K D).isSome = true := by
    obtain ⟨cd, hc, _⟩ := PySem.W.any_some C.hd
    exact Option.isSome_iff_exists.mpr ⟨cd, hc⟩
  rcases ha with ha | ⟨dd, fs, ha, hd⟩
  · obtain ⟨t1, hg⟩ := exo_at I.hok ha
    have J : PySem.W.InstAt s.heap a _ D none := ⟨hg, rfl, rfl, trivial⟩
    exact PySem.W.kia_one (PySem.W.kitx_exc hcl C.hg C.hk C.hs C.ha C.hn C.ht C.hm) I.kIn J e (fun z => nomatch z) fun tk => ⟨.bl b, H, I.kept (t' := tk) fun _ _ z => z, rfl, q⟩
  · obtain ⟨t1, hg⟩ := exo_at I.hok ha
    obtain ⟨mA, hns, hr⟩ := exd_at I.hok hd
    obtain ⟨od, ho, hl⟩ := lookIn_ns hns
    have J : PySem.W.InstAt s.heap a _ D (some od) := ⟨hg, rfl, rfl, ho⟩
    exact PySem.W.kia_one (PySem.W.kitx_exc hcl C.hg C.hk C.hs C.ha C.hn C.ht C.hm) I.kIn J e (fun z => nomatch z) fun tk => ⟨.bl b, H, I.kept (t' := tk) fun _ _ z => z, rfl, q⟩

/-- x != x: False, x a number, a flag, None, a text, a list, a tuple, a dict -/
def Selfy (H : Hp) : V → Prop
  | .non => True
  | .bl _ => True
  | .int _ => True
  | .str _ => True
  | .ref a => (∃ xs, H a = some (.lst xs)) ∨ (∃ xs, H a = some (.tup xs)) ∨ ∃ kvs, H a = some (.dK kvs)
  | _ => False
def rNeS : R2 := fun x y H Q => x = y ∧ Selfy H x ∧ Q (.bl false) H
theorem keqHits_self {κ : Type} [DecidableEq κ] {A : Around} {s : Shared} {kb : List (κ × Value)} : ∀ l : List (κ × Value), (∀ p ∈ l, ∃ y, valueAt kb p.1 = some y ∧ y = p.2) → PySem.W.KeqHits A s kb l true
  | [], _ => .nil
  | (k, v) :: r, h => by
    obtain ⟨y, hy, e⟩ := h (k, v) List.mem_cons_self
    subst e
    show PySem.W.KeqHits A s kb ((k, y) :: r) (true && true)
    exact .hit hy (SeqAt.EqAt.same _) (keqHits_self r fun p hp => h p (List.mem_cons_of_mem _ hp))
theorem op_neS (hu : X.A.units < cLine) : OpR X (compareOp .NotEq) rNeS := by
  intro pins s σ H x y v u Q I rx ry h
  obtain ⟨rfl, hs, q⟩ := h
  cases x with
  | non => exact op_ne pins s σ H .non .non v u Q I rx ry ⟨rfl, by simpa using q⟩
  | bl b => exact op_ne pins s σ H (.bl b) (.bl b) v u Q I rx ry ⟨rfl, by simpa using q⟩
  | int i => exact op_ne pins s σ H (.int i) (.int i) v u Q I rx ry ⟨rfl, by simpa using q⟩
  | str x => exact op_ne pins s σ H (.str x) (.str x) v u Q I rx ry ⟨rfl, by simpa using q⟩
  | ref a =>
    cases (show v = Value.ref a from rx)
    cases (show u = Value.ref a from ry)
    rcases hs with ⟨xs, ha⟩ | ⟨xs, ha⟩ | ⟨kvs, ha⟩
    · obtain ⟨_, its, n, r, hg⟩ := (show ObjOk X.prog X.w H s.heap a (.lst xs) from I.hok a _ ha)
      have hl : s.heap.IsList a its.toArray := ⟨_, hg, rfl, n, rfl⟩
      refine SeqAt.RcNeAt.lists (e := fun _ => true) hl hl rfl hu (fun j h1 h2 => SeqAt.EqAt.same _) X.prog X.w _ _ ?_
      rw [show ((List.range its.toArray.size).all fun _ => true) = true from List.all_eq_true.mpr fun _ _ => rfl]
      exact ⟨.bl false, H, I, rfl, q⟩
    · obtain ⟨_, its, r, ob, h1, h2, h3⟩ := (show ObjOk X.prog X.w H s.heap a (.tup xs) from I.hok a _ ha)
      have hl : s.heap.IsTuple a its.toArray := ⟨ob, h1, h2, h3⟩
      refine SeqAt.RcNeAt.tuples (e := fun _ => true) hl hl hu (fun j h1 h2 => SeqAt.EqAt.same _) X.prog X.w _ _ ?_
      rw [show ((List.range (min its.toArray.size its.toArray.size)).all fun _ => true) = true from List.all_eq_true.mpr fun _ _ => rfl]
      simp only [beq_self_eq_true, Bool.and_true, Bool.not_true]
      exact ⟨.bl false, H, I, rfl, q⟩
    · obtain ⟨_, ya, va, ra, da⟩ := (show ObjOk X.prog X.w H s.heap a (.dK kvs) from I.hok a _ ha)
      refine PySem.W.keq_ne (knd := mixKind X.prog X.w) (r := true) ya ya da da hu (fun _ => keqHits_self va fun p hp => ?_) ?_
      · obtain ⟨_, _, _, _, _, _, _, _, nd⟩ := da
        exact ⟨p.2, PySem.valueAt_of_mem nd hp, rfl⟩
      · simp only [beq_self_eq_true, Bool.and_true, Bool.not_true]
        exact ⟨.bl false, H, I, rfl, q⟩
  | _ => exact hs.elim
end

/-! ### calls of own defs, cuts, counts -/
/-- a def that may be called by its name -/
structure Cal (P : Program) (w : World) (K : PySem.W.Frag) (mg : Str → Option Value) (base : Heap) (x : Str) (k : Nat) (ps : List Str) (sp : Sp) : Prop where
  ex : ∃ (f : Addr) (fd : FuncData), FnOk P w K mg base CX0 k f fd ps sp ∧ mg x = some (.ref f) ∧ PySem.W.keepIn K (.ref f) = true ∧ Binds K fd ps []
section
variable {X : Cx} {e : Expr} {es : List Expr} {t : TA} {x : Str} {p pos : Pos} {k : Nat} {ps : List Str} {sp : Sp}
theorem pcal (C : Cal X.prog X.w X.K X.mg X.base x k ps sp) (hr : Room k X.A) (hg : Gl X x) (ha : PA X (e :: es) t)
    (hdb : (x == ("__debug__" : Str)) = false := by decide) (he : starEach (e :: es) X.env = (false, eval e X.env) :: starEach es X.env := by rfl) (hpl : (backTo pos (starEach es X.env)).any (·.1) = false := by rfl) :
    PE X (.Call (.Name x p) (e :: es) [] pos) (tCall sp [] E0 t) := by
  obtain ⟨f, fd, G, g, kp, b⟩ := C.ex
  exact pe_call G hr hg g kp b .nil pass0 ha hdb he hpl
def tCut (t u : TS) : TS := fun D σ H => ∃ Mid : L2.St → Hp → Prop, t { D with nx := Mid } σ H ∧ ∀ σ' H', Mid σ' H' → u D σ' H'
theorem pss_cut {st : Stmt} {rest : List Stmt} {t u : TS} (h1 : PS X st t) (h2 : PSs X rest u) : PSs X (st :: rest) (tCut t u) := by
  refine ⟨fun pins s σ H D I h => ?_⟩
  obtain ⟨Mid, hm, hu⟩ := h
  refine wpAny_execs_cons (thn (h1.run pins s σ H { D with nx := Mid } I hm) fun f s1 q => ?_)
  cases f with
  | next =>
    obtain ⟨σ', H', I', q⟩ := q
    exact h2.run pins s1 σ' H' D I' (hu σ' H' q)
  | ret v => exact q
  | brk => exact q
  | cont => exact q
/-- % and // by a positive number that is not written -/
theorem op_modP : OpR X (binaryOp .Mod) (rI (fun _ j => 0 < j) fun i j => .int (i % j)) := op_mod
theorem op_fdivP : OpR X (binaryOp .FloorDiv) (rI CDiv fun i j => .int (i / j)) := op_fdiv
end
/-- only the object at p may have changed -/
def Ch (p : Addr) (H H' : Hp) : Prop := ∀ b, b ≠ p → H' b = H b
theorem Ch.refl (p : Addr) (H : Hp) : Ch p H H := fun _ _ => rfl
theorem Ch.upd {p : Addr} {H H' : Hp} (c : Ch p H H') (o : HO) : Ch p H (upd H' p o) := fun b hb => by
  rw [upd_ne hb]
  exact c b hb
theorem Ch.trans {p : Addr} {H H1 H2 : Hp} (a : Ch p H H1) (b : Ch p H1 H2) : Ch p H H2 := fun c hc => (b c hc).trans (a c hc)
/-- all that was tracked but p stands -/
def Kp (p : Addr) (H H' : Hp) : Prop := ∀ b o, b ≠ p → H b = some o → H' b = some o
theorem Ch.kp {p : Addr} {H H' : Hp} (c : Ch p H H') : Kp p H H' := fun b o hb e => by
  rw [c b hb]
  exact e
theorem Kp.refl (p : Addr) (H : Hp) : Kp p H H := fun _ _ _ e => e
theorem Kp.trans {p : Addr} {H H1 H2 : Hp} (a : Kp p H H1) (b : Kp p H1 H2) : Kp p H H2 := fun c o hc e => b c o hc (a c o hc e)
theorem Kp.new {p a : Addr} {H H' : Hp} {o : HO} (k : Kp p H H') (n : H' a = none) : Kp p H (upd H' a o) := fun b u hb e => by
  have z := k b u hb e
  rw [upd_ne (ne_of_none z n)]
  exact z
theorem Kp.seq {K : PySem.W.Frag} {p : Addr} {H H' : Hp} {a : Addr} {xs : List V} (e : Kp p H H') (ne : a ≠ p) (h : SqL K H a xs) : SqL K H' a xs := by
  rcases h with (h | ⟨o, h⟩) | h
  · exact .inl (.inl (e _ _ ne h))
  · exact .inl (.inr ⟨o, e _ _ ne h⟩)
  · exact .inr h
/-- xs.count(y): flat things -/
def rCntV (K : PySem.W.Frag) : V → List V → Hp → VK → Prop := fun x xs H Q => ∃ (p : Addr) (ys : List V) (y : V), x = .ref p ∧ xs = [y] ∧ SqL K H p ys ∧ flatV y = true ∧ ys.all flatV = true ∧ Q (.int (ys.countP fun z => eqV z y)) H
theorem countP_eqU {y : V} : ∀ {ys : List V} {us : List Value}, Vals ys us → ys.all flatV = true → us.countP (eqU y) = ys.countP fun z => eqV z y
  | _, _, .nil, _ => rfl
  | z :: ys, u :: us, .cons r t, h => by
    have h' : (flatV z && ys.all flatV) = true := h
    obtain ⟨h1, h2⟩ := Bool.and_eq_true_iff.mp h'
    rw [List.countP_cons, List.countP_cons, countP_eqU t h2, eqU_of r h1]
theorem mt_lcountV {X : Cx} : MtR X "list.count" (rCntV X.K) := by
  intro pins s σ H x xs v us Q I rx rxs h
  obtain ⟨p, ys, y, rfl, rfl, hs, fy, fys, q⟩ := h
  cases rx
  obtain ⟨u, rfl, ru⟩ := rxs.one
  obtain ⟨its, rv, ⟨⟨cls, dd, data, sl⟩, n, ho, hc, hdn, hd⟩, hlen⟩ := I.list hs
  simp only at hc hd
  subst hc hd
  refine call_meets PySem.F.slot_list_count ⟨_, ho, rfl⟩ PySem.F.entry_list_count (PySem.F.args_list_count_2 _ _)
    (SeqAt.list_countAt p its.toArray n dd sl u (eqU y)) ⟨ho, fun z hz => mem_eqAt ru fy rv fys z (by simpa using hz), ?_⟩
  have ec : its.toArray.toList.countP (eqU y) = ys.countP fun z => eqV z y := countP_eqU rv fys
  refine ⟨.int (ys.countP fun z => eqV z y), H, I.tok _, ⟨s.toks, ?_⟩, q⟩
  show Value.int ((its.toArray.toList.countP (eqU y) : Nat) : Int) s.toks = _
  rw [ec]
end ZX
set_option Elab.async false
set_option linter.all false
set_option maxRecDepth 100000
set_option maxHeartbeats 2000000
/-! Rules of my own: t[::-1] of a tuple. -/
namespace ZR
open PySem PySem.Spec PyProof.Rows L2
section
variable {prog : Program} {w : World} {A : Around} {E : Value → Shared → Prop} {s : Shared}
theorem places_rev (n : Nat) : Builtin.Slice.sliceAdjust none none (-1) (n : Int) = ((n : Int) - 1, -1) ∧ Builtin.Slice.slicePlaces ((n : Int) - 1) (-1) (-1) = n := by
  constructor
  · unfold Builtin.Slice.sliceAdjust
    simp
  · unfold Builtin.Slice.slicePlaces
    simp
    omega
theorem fm_congr {α β : Type} {f g : α → Option β} : ∀ {l : List α}, (∀ x ∈ l, f x = g x) → l.filterMap f = l.filterMap g
  | [], _ => rfl
  | x :: l, h => by
    rw [List.filterMap_cons, List.filterMap_cons, h x List.mem_cons_self, fm_congr fun y hy => h y (List.mem_cons_of_mem _ hy)]
theorem pick_take {α : Type} (r : List α) : ∀ k, (List.range k).filterMap (fun m => r[m]?) = r.take k
  | 0 => rfl
  | k + 1 => by
    rw [List.range_succ, List.filterMap_append, pick_take r k, List.take_add_one]
    cases h : r[k]? <;> simp [h]
theorem pick_rev (xs : Array Value) : ((List.range xs.size).filterMap fun (m : Nat) => xs[(((xs.size : Int) - 1) + (m : Int) * (-1)).toNat]?) = xs.toList.reverse := by
  have e : (List.range xs.size).filterMap (fun (m : Nat) => xs[(((xs.size : Int) - 1) + (m : Int) * (-1)).toNat]?) = (List.range xs.size).filterMap (fun m => xs.toList.reverse[m]?) := by
    refine fm_congr fun m hm => ?_
    have hm' : m < xs.size := List.mem_range.mp hm
    have h1 : (((xs.size : Int) - 1) + (m : Int) * (-1)).toNat = xs.size - 1 - m := by omega
    rw [h1, List.getElem?_reverse (by simpa using hm'), Array.getElem?_toList, Array.length_toList]
  rw [e, pick_take]
  exact List.take_of_length_le (by simp)
theorem applied_rev {sl : Addr} {n : Nat} {u : Tok} {Q : Int × Int × Nat → Shared → Prop} (hs : s.heap.IsSliceOf sl .none .none (.int (-1) u)) (h : Q ((n : Int) - 1, -1, n) s) :
    wpAny (model prog w) A (Builtin.Slice.sliceApplied (.ref sl) (pure (n : Int))) Q E s := by
  obtain ⟨os, hos, hcs, hds⟩ := id hs
  unfold Builtin.Slice.sliceApplied Builtin.Slice.sliceFields
  refine wpAny_bind (wpAny_bind (wpAny_field hos hds (x := .none) rfl (wpAny_bind (wpAny_field hos hds (x := .none) rfl (wpAny_bind (wpAny_field hos hds (x := .int (-1) u) rfl (wpAny_pure ?_)))))))
  refine wpAny_bind (slicePart_int ?_)
  show wpAny _ _ (if ((-1 : Int) == 0) = true then _ else _) _ _ s
  rw [if_neg (by decide)]
  refine wpAny_bind (slicePart_none (wpAny_bind (slicePart_none (wpAny_bind (wpAny_pure ?_)))))
  show wpAny _ _ (match Builtin.Slice.sliceAdjust none none (-1) (n : Int) with | (lo, hi) => pure (lo, (-1 : Int), Builtin.Slice.slicePlaces lo hi (-1))) _ _ s
  rw [(places_rev n).1]
  show wpAny _ _ (pure ((n : Int) - 1, (-1 : Int), Builtin.Slice.slicePlaces ((n : Int) - 1) (-1) (-1))) _ _ s
  rw [(places_rev n).2]
  exact wpAny_pure h
theorem getItem_tuple_rev {t sl : Addr} {items : Array Value} {u : Tok} {Q : Value → Shared → Prop} (ht : IsTup s.heap t items) (hs : s.heap.IsSliceOf sl .none .none (.int (-1) u))
    (h : Q (.ref s.heap.objs.size) { s with heap := s.heap.push { cls := .type "tuple", data := .seq items.toList.reverse.toArray } }) (hsz : items.size ≤ sizeLine) : wpAny (model prog w) A (getItem (.ref t) (.ref sl)) Q E s := by
  have hok : sizeOk (.seq items.toList.reverse.toArray) := by
    show items.toList.reverse.toArray.size ≤ sizeLine
    rw [List.size_toArray, List.length_reverse, Array.length_toList]
    exact hsz
  obtain ⟨os, hos, hcs, hds⟩ := id hs
  have hTs : s.TypeIs (.ref sl) "slice" := ⟨os, hos, hcs⟩
  unfold getItem
  try with_reducible refine wpAny_holding ?_
  first | refine wpAny_bind (wpAny_pure ?_) | skip
  refine wpAny_bind (wpAny_sequenceKey ht.typeIs (by decide) ?_)
  refine wpAny_bind (wpAny_callSpecial?_slot (name := Str.ofString "__getitem__") ht.typeIs PyProof.Rows.slot_tuple_getitem
    (wpAny_call_entry PyProof.Rows.slot_tuple_getitem ht.typeIs entry_tuple_getitem ?_ (args_tuple_getitem _ _)))
  show wpAny _ _ (Builtin.Tuple.tupleItemsOf (.ref t) >>= _) _ _ s
  refine wpAny_bind (tupleItemsOf_ ht ?_)
  refine wpAny_bind (wpAny_typeOf hTs ?_)
  rw [if_pos (by decide)]
  refine wpAny_bind (applied_rev hs ?_)
  have hno : ¬ ((((items.size : Int) - 1) == 0 && (-1 : Int) == 1 && items.size == items.size) = true) := by simp
  show wpAny _ _ (if ((((items.size : Int) - 1) == 0 && (-1 : Int) == 1 && items.size == items.size) = true) then _ else _) _ _ s
  rw [if_neg hno, pick_rev]
  first
    | exact wpAny_bind (m := Builtin.Tuple.tupleExact _) (wpAny_newObj_type (wpAny_pure ⟨_, rfl, wpAny_pure h⟩) hok)
    | exact wpAny_bind (m := Builtin.Tuple.tupleExact _) (wpAny_newObj_type (wpAny_bind (wpAny_pure (wpAny_pure ⟨_, rfl, wpAny_pure h⟩))) hok)
    | exact wpAny_bind (wpAny_bind (m := Builtin.Tuple.tupleExact _) (wpAny_newObj_type (wpAny_pure (wpAny_pure ⟨_, rfl, wpAny_pure h⟩)) hok))
end
/-- t[::-1] of a tuple: a new tuple -/
def tRevT (K : PySem.W.Frag) (te : TE) : TE := fun σ H Q => te σ H fun x H1 => ∃ a xs, x = .ref a ∧ SqT K H1 a xs ∧ ∀ p, H1 p = none → Q (.ref p) (upd H1 p (.tup xs.reverse))
section
variable {X : Cx}
theorem pe_revT {e : Expr} {te : TE} {k : Nat} {p1 p2 p3 pos : Pos} (he : PE X e te) : PE X (.Subscript e (.Slice none none (some (.UnaryOp .USub (.Constant (.int 1) k p1) p2)) p3) pos) (tRevT X.K te) := by
  refine ⟨fun pins s σ H Q I h => ?_⟩
  refine Subscript_ (thn (he.run pins s σ H _ I h) fun v s1 ⟨x, H1, I1, r1, q1⟩ => ?_)
  obtain ⟨a, xs, ex, hx, q⟩ := q1
  subst ex
  cases r1
  have hst : PE X (.UnaryOp .USub (.Constant (.int 1) k p1) p2) (tUn (rU fun i => .int (-i)) (tC (.int 1))) := pe_un un_neg pe_int
  refine wpAny_Slice (thn (po_none.run pins s1 σ H1 (fun o H2 => o = none ∧ H2 = H1) I1 ⟨rfl, rfl⟩) fun vl s2 ⟨l, H2, I2, pl, el, e2⟩ => ?_)
  subst el e2
  refine thn (po_none.run pins s2 σ H2 (fun o H3 => o = none ∧ H3 = H2) I2 ⟨rfl, rfl⟩) fun vu s3 ⟨u, H3, I3, pu, eu, e3⟩ => ?_
  subst eu e3
  have hst2 : PO X (some (.UnaryOp .USub (.Constant (.int 1) k p1) p2)) (tPart (tUn (rU fun i => .int (-i)) (tC (.int 1)))) := po_some hst
  refine thn (hst2.run pins s3 σ H3 (fun o H4 => o = some (-1) ∧ H4 = H3) I3 ⟨1, rfl, -1, rfl, rfl, rfl⟩) fun vs s4 ⟨o, H4, I4, ps, eo, e4⟩ => ?_
  subst eo e4
  cases pl
  cases pu
  obtain ⟨u, rfl⟩ : ∃ u, vs = Value.int (-1) u := by
    cases ps with
    | int i t => exact ⟨_, rfl⟩
  have I5 : Inv X pins σ H4 { s4 with heap := s4.heap.push { cls := .type "slice", data := .fields #[.none, .none, .int (-1) u] } } := I4.kept (t' := s4.toks) fun b ob q => Heap.get?_push_of_some _ q
  obtain ⟨its, r, ht, hz⟩ := I5.tuple hx
  have hlen := r.length
  show wpAny (model X.prog X.w) X.A (subscriptTail e (.Slice none none (some (.UnaryOp .USub (.Constant (.int 1) k p1) p2)) p3) (.ref a) (.ref s4.heap.objs.size)) (EP X pins σ Q) X.xe { s4 with heap := s4.heap.push { cls := .type "slice", data := .fields #[.none, .none, .int (-1) u] } }
  refine tail_any (ops := [.ref a, .ref s4.heap.objs.size]) ht.typeIs PyProof.Rows.slot_tuple_getitem.lookup ?_ (by with_unfolding_all rfl)
  refine getItem_tuple_rev ht (Heap.IsSliceOf.new _ _ _ _) ?_ (by rw [List.size_toArray]; omega)
  refine ⟨.ref _, _, I5.laid (t' := s4.toks) (o := .tup xs.reverse) (fun b ob q => Heap.get?_push_of_some _ q) (Nat.le_refl _) ?_, rfl, q _ (I5.hok.fresh (Nat.le_refl _))⟩
  exact ⟨by rw [List.length_reverse]; exact hz, its.reverse, r.reverse, IsTup.new _ _⟩
end
end ZR
set_option Elab.async false
set_option linter.all false
set_option maxRecDepth 100000
set_option maxHeartbeats 2000000
/-! Rules of my own: for i, x in enumerate(t), t a tuple. -/
namespace ZR
open PySem PySem.Spec PyProof.Rows L2
open AutoSeq1 (wpAny_loadPart')
set_option maxHeartbeats 1000000 in
theorem meets_enum_tup (l : Addr) (items : Array Value) (n : Nat) (dct : Option Addr) (sl : Array (Option Value)) :
    Meets (Builtin.«enumerate.__new__» ⟨[.type "enumerate", .ref l], []⟩) (fun _ R s => s.heap.get? l = some { cls := .type "tuple", dict := dct, data := .seq items n, slots := sl } ∧
      R (.ok (.ret (.ref (s.heap.push { cls := .type "tuple_iterator", data := .fields #[.ref l, .int 0 0] }).objs.size)))
        { s with heap := (s.heap.push { cls := .type "tuple_iterator", data := .fields #[.ref l, .int 0 0] }).push { cls := .type "enumerate", data := .fields #[.none, .bool false, .ref s.heap.objs.size, rawInt 0, .none, .none] } }) :=
  .of_wp fun prog w A R s h => by
    obtain ⟨hp, g, d, tk, os⟩ := s; obtain ⟨hl, h⟩ := h
    have hsub := sub_enumerate
    have hL : Heap.IsTuple (Shared.heap ⟨hp, g, d, tk, os⟩) l items := ⟨_, hl, rfl, n, rfl⟩
    wp_walk using wpAny_loadPart' hl
    refine wpAny_stack_any fun st => wpAny_pure ?_
    split
    · rename_i c _ _ _ _ _
      cases (c == Value.type "enumerate")
      · wp_walk using wpAny_loadPart' hl, wpAny_pyIter_tuple hL
        exact ⟨_, rfl, h⟩
      · wp_walk using wpAny_loadPart' hl, wpAny_pyIter_tuple hL
        exact ⟨_, rfl, h⟩
    · wp_walk using wpAny_loadPart' hl, wpAny_pyIter_tuple hL
      exact ⟨_, rfl, h⟩
section
variable {prog : Program} {w : World} {A : Around} {E : Value → Shared → Prop} {s : Shared}
theorem call_enum_tup {l : Addr} {items : Array Value} {Q : Value → Shared → Prop} (hL : IsTup s.heap l items)
    (h : ∀ h', IsEnum h' (s.heap.objs.size + 1) s.heap.objs.size 0 .none → h'.IsTupleIter s.heap.objs.size l 0 →
      (∀ b o, s.heap.get? b = some o → h'.get? b = some o) → Q (.ref (s.heap.objs.size + 1)) { s with heap := h' }) :
    wpAny (model prog w) A (call (.type "enumerate") [.ref l]) Q E s := by
  obtain ⟨⟨c, dct, dt, sl⟩, hl, hc, n, hd⟩ := hL
  replace hc : c = .type "tuple" := hc
  replace hd : dt = .seq items n := hd
  subst hc hd
  refine callType_new F.called_enumerate (by decide) (F.typeCall_enumerate_1 _) (F.newCall_enumerate_1 _) (fun obj => F.args_object_init_2 obj _) F.entry_enumerate_new
    (meets_enum_tup l items n dct sl) ⟨hl, ?_⟩
  have hz : (s.heap.push { cls := .type "tuple_iterator", data := .fields #[.ref l, .int 0 0] }).objs.size = s.heap.objs.size + 1 := Heap.size_push ..
  show _ ∧ _
  rw [hz]
  have he : IsEnum ((s.heap.push { cls := .type "tuple_iterator", data := .fields #[.ref l, .int 0 0] }).push
      { cls := .type "enumerate", data := .fields #[.none, .bool false, .ref s.heap.objs.size, rawInt 0, .none, .none] }) (s.heap.objs.size + 1) s.heap.objs.size 0 .none := by
    have := Heap.get?_push_size (s.heap.push { cls := .type "tuple_iterator", data := .fields #[.ref l, .int 0 0] })
      (o := { cls := .type "enumerate", data := .fields #[.none, .bool false, .ref s.heap.objs.size, rawInt 0, .none, .none] }) rfl
    rw [hz] at this
    exact this
  exact ⟨⟨_, he, rfl⟩, h _ he ⟨_, Heap.get?_push_of_some _ (Heap.get?_push_size _ rfl), rfl, rfl⟩ fun b o x => Heap.get?_push_of_some _ (Heap.get?_push_of_some _ x)⟩
end
/-- the tuple at a, each item in a new pair with its number -/
def Itet (K : PySem.W.Frag) (a : Addr) : It :=
  ⟨fun i H => ∃ (xs : List V) (x : V), SqT K H a xs ∧ xs[i]? = some x, fun i H v H' => ∃ T x, v = .ref T ∧ H T = none ∧ H' = upd H T (.tup [.int (i : Nat), x]) ∧ ∀ xs, SqT K H a xs → xs[i]? = some x, fun i H => ∃ xs : List V, SqT K H a xs ∧ xs.length = i⟩
theorem turn_enumT {P : Program} {w : World} {K : PySem.W.Frag} {elts : List Expr} {kk : Nat} {tpos : Pos} (a e it : Addr) :
    Turn P w K (.Tuple elts kk tpos) (Itet K a) [e, it] e (fun i h => (∃ old, IsEnum h e it ((i : Nat) : Int) old) ∧ h.IsTupleIter it a i ∧ e ≠ it) where
  mem := by simp
  obj := fun i h st b hb => by
    obtain ⟨⟨old, he⟩, ⟨o, ho, hc, hd⟩, _⟩ := st
    have e' : b = e ∨ b = it := by simpa using hb
    rcases e' with z | z
    · rw [z]; exact ⟨_, he, fun v q => nomatch q⟩
    · rw [z]; exact ⟨o, ho, fun v q => by rw [hd] at q; cases q⟩
  keep := fun i h h' st k => let ⟨⟨old, he⟩, hi, hne⟩ := st; ⟨⟨old, k e (by simp) _ he⟩, hi.at fun o q => k it (by simp) o q, hne⟩
  item := by
    intro X hP hw hK hc i pins s σ H E I hf st hg
    subst hP hw hK
    obtain ⟨⟨old, he⟩, hit, hne⟩ := st
    obtain ⟨xs, x, hq, hx⟩ := hg
    obtain ⟨its, rv, p, hz⟩ := I.tuple hq
    obtain ⟨u, hu, ru⟩ := rv.get hx
    have hel : e < s.heap.objs.size := Heap.lt_size he
    have hil : it < s.heap.objs.size := by obtain ⟨_, q, _⟩ := hit; exact Heap.lt_size q
    have hae : a ≠ e := fun z => by
      obtain ⟨o, ho, hc, _⟩ := p
      rw [z] at ho
      have he' : s.heap.get? e = some _ := he
      rw [he'] at ho
      cases ho
      injection hc with q
      exact absurd q (by decide)
    have hai : a ≠ it := fun z => by
      obtain ⟨o, ho, hc, _⟩ := p
      obtain ⟨o2, ho2, hc2, _⟩ := hit
      rw [z, ho2] at ho
      cases ho
      rw [hc2] at hc
      injection hc with q
      exact absurd q (by decide)
    have D := Draws.tuple (prog := X.prog) (w := X.w) (A := X.A.in1) (I.ok.hd hc) it a hai its.toArray
    have hlt : i < its.toArray.size := by
      rw [List.size_toArray]
      exact (List.getElem?_eq_some_iff.mp hu).1
    refine wpAny_pyNext_enum_itemD D he ⟨hit, p⟩ hlt hne (by simp [hae.symm, hne]) fun x' h' tk hx' ho st' hT hsz hk => ?_
    have ex : x' = u := by
      have z : its.toArray[i]? = some x' := hx'
      rw [List.getElem?_toArray, hu] at z
      exact (Option.some.inj z).symm
    subst ex
    refine ⟨_, rfl, wpAny_letOwnedTupleGo_enum (s := { s with heap := h', toks := tk + 1 }) ho fun h'' he' sb => ?_⟩
    have hT2 : h''.get? s.heap.objs.size = some { cls := .type "tuple", data := .seq #[.int i tk, x'] } := (sb.2 _ (Nat.ne_of_gt hel)).trans hT
    have new : ObjOk X.prog X.w (upd H s.heap.objs.size (.tup [.int (i : Nat), x])) h'' s.heap.objs.size (.tup [.int (i : Nat), x]) :=
      ⟨by show 2 ≤ sizeLine; decide, [.int i tk, x'], .cons ⟨_, rfl⟩ (.cons ru .nil), ⟨_, hT2, rfl, _, rfl⟩⟩
    have I1 : Inv X pins σ (upd H s.heap.objs.size (.tup [.int (i : Nat), x])) { s with heap := h'', toks := tk + 1 } :=
      I.turnedNew (ch := [e, it]) (fun b ob hb q => (sb.2 b (fun z => hb (by simp [z]))).trans (hk b ob (fun z => hb (by simp [z])) (fun z => hb (by simp [z])) q)) hf (Nat.le_refl _) new
    refine ⟨.ref s.heap.objs.size, _, I1, rfl, ⟨_, x, rfl, I.hok.fresh (Nat.le_refl _), rfl, fun ys hy => ?_⟩, ⟨⟨x', ?_⟩, st'.1.at fun o q => (sb.2 it (Ne.symm hne)).trans q, hne⟩, fun b hb => ?_⟩
    · rw [I.tuple_inj hy hq]
      exact hx
    · have e1 : ((i + 1 : Nat) : Int) = (i : Int) + 1 := by omega
      rw [e1]; exact he'
    · have hb' : b < s.heap.objs.size := by
        have e' : b = e ∨ b = it := by simpa using hb
        rcases e' with z | z
        · rw [z]; exact hel
        · rw [z]; exact hil
      rw [upd_ne (Nat.ne_of_lt hb')]
      exact (hf b hb).1
  done := by
    intro X hP hw hK hc i pins s σ H E I hf st hg
    subst hP hw hK
    obtain ⟨⟨old, he⟩, hit, hne⟩ := st
    obtain ⟨xs, hq, hx⟩ := hg
    obtain ⟨its, rv, p, hz⟩ := I.tuple hq
    obtain ⟨f0, f1, f2, f3, f4, f5⟩ := hf it (by simp)
    have hl := rv.length
    have hai : a ≠ it := fun z => by
      obtain ⟨o, ho, hc, _⟩ := p
      obtain ⟨o2, ho2, hc2, _⟩ := hit
      rw [z, ho2] at ho
      cases ho
      rw [hc2] at hc
      injection hc with q
      exact absurd q (by decide)
    have D := Draws.tuple (prog := X.prog) (w := X.w) (A := X.A.in1) (I.ok.hd hc) it a hai its.toArray
    have hsz : its.toArray.size = i := by
      rw [List.size_toArray, ← hl]
      exact hx
    refine wpAny_pyNext_enum_endD D he (by rw [hsz]; exact ⟨hit, p⟩) fun h' eb => ?_
    exact ⟨rfl, I.turned (t' := s.toks) (fun b o hb q => eb b o hb q) f0 f1 f3 f4 f5⟩
  self := fun A i s Q E st h => let ⟨⟨_, he⟩, _⟩ := st; wpAny_pyIter_enum he h
def iEnumT (K : PySem.W.Frag) (ta : TA) : TI := fun σ H R => ta σ H fun vs H1 => ∃ a xs, vs = [.ref a] ∧ SqT K H1 a xs ∧ R (Itet K a) H1
theorem pi_enumT {X : Cx} {e : Expr} {ta : TA} {p pos tpos : Pos} {elts : List Expr} {kk : Nat} (hg : Gl X "enumerate") (hm : X.mg "enumerate" = none) (ha : PA X [e] ta) (hs : starEach [e] X.env = [(false, eval e X.env)] := by rfl) :
    PI X (.Tuple elts kk tpos) (.Call (.Name "enumerate" p) [e] [] pos) (iEnumT X.K ta) := by
  refine ⟨fun pins s σ H R I h => ?_⟩
  refine Call_ (ld_blt I hg hm boot_enumerate (PyProof.Rows.callWith_type1 (thn (ha.run pos pins s σ H _ I h) fun us s1 ⟨vs, H1, I1, r1, q1⟩ => ?_) hs rfl))
  obtain ⟨a, xs, ex, hq, q⟩ := q1
  subst ex
  cases r1 with
  | cons r rr =>
    cases rr
    cases r
    obtain ⟨its, rv, p', hz⟩ := I1.tuple hq
    refine call_enum_tup p' fun h' he hit hk => wpAny_pyIter_enum he ?_
    have I2 : Inv X pins σ H1 { s1 with heap := h' } := I1.kept (t' := s1.toks) hk
    refine ⟨s1.heap.objs.size + 1, [s1.heap.objs.size + 1, s1.heap.objs.size], _, _, H1, rfl, I2, turn_enumT a (s1.heap.objs.size + 1) s1.heap.objs.size, ⟨⟨.none, he⟩, hit, Nat.succ_ne_self _⟩, fun b hb => ?_, q⟩
    have hle : s1.heap.objs.size ≤ b := by
      have e' : b = s1.heap.objs.size + 1 ∨ b = s1.heap.objs.size := by simpa using hb
      rcases e' with z | z
      · rw [z]; exact Nat.le_add_right _ _
      · rw [z]; exact Nat.le_refl _
    exact I1.fpOk hle (I1.hok.fresh hle)
theorem walk_enumT {K : PySem.W.Frag} {a : Addr} {xs : List V} : Walk (Itet K a) xs.length (fun H => SqT K H a xs) (YPair (fun i => some (.int (i : Nat))) (fun i => xs[i]?)) := by
  refine ⟨fun i _ hi q => ⟨xs, xs[i], q, by simp [hi]⟩, fun _ q => ⟨xs, q, rfl⟩, fun i H v H' _ q y => ?_⟩
  obtain ⟨T, x, h1, h2, h3, h4⟩ := y
  exact ⟨T, .int (i : Nat), x, h1, h2, h3, rfl, h4 xs q⟩
end ZR
set_option Elab.async false
set_option linter.all false
set_option maxRecDepth 100000
set_option maxHeartbeats 4000000
/-! Rules of my own: sets of texts, made by a comprehension of one or two walks, or of a list, and sorted. -/
namespace ZR
open PySem PySem.Spec PyProof.Rows L2
/-- the text of an entry -/
def txt (e : Int × Value) : Str := match e.2 with
  | .str x _ => x
  | _ => Str.empty
/-- entries and table of a set of the texts ks (in some order) -/
structure Tx (w : World) (es : Array (Int × Value)) (t : SetTable) (ks : List Str) : Prop where
  pm : (es.toList.map txt).Perm ks
  gd : ∀ e ∈ es.toList, ∃ x u, e = (hashStr w x, Value.str x u)
  nd : ks.Nodup
  sm : es.size < scanBound
  ft : t.fits es.size = true
  ri : Ris t.place.toList
  ld : w.params.followText "set-order" = true ∨ t.led = true
def SetS (w : World) (h : Heap) (a : Addr) (ks : List Str) : Prop := ∃ o es ep t, h.get? a = some o ∧ o.ExactSet ∧ o.data = .set es ep t ∧ Tx w es t ks
/-- ks with x -/
def ins (x : Str) (ks : List Str) : List Str := if x ∈ ks then ks else ks ++ [x]
theorem SetS.at {w : World} {h h' : Heap} {a : Addr} {ks : List Str} (R : SetS w h a ks) (k : ∀ o, h.get? a = some o → h'.get? a = some o) : SetS w h' a ks := by
  obtain ⟨o, es, ep, t, ho, r⟩ := R
  exact ⟨o, es, ep, t, k o ho, r⟩
section
variable {P : Program} {w : World} {es : Array (Int × Value)} {t : SetTable} {ks : List Str}
theorem Tx.len (T : Tx w es t ks) : es.size = ks.length := by
  rw [← T.pm.length_eq, List.length_map, Array.length_toList]
theorem Tx.elems (T : Tx w es t ks) : ElemsOf (PySem.strKind P w) es.toList := fun e he => by
  obtain ⟨x, u, rfl⟩ := T.gd e he
  exact ⟨⟨x, strKind_is _ _ _ _, rfl⟩, rfl⟩
theorem Tx.mem (T : Tx w es t ks) (x : Str) : x ∈ ks ↔ ∃ e ∈ es.toList, (PySem.strKind P w).is x e.2 = true := by
  rw [← T.pm.mem_iff, List.mem_map]
  constructor
  · rintro ⟨e, he, q⟩
    obtain ⟨y, u, rfl⟩ := T.gd e he
    have e2 : y = x := q
    subst e2
    exact ⟨_, he, strKind_is _ _ _ _⟩
  · rintro ⟨e, he, q⟩
    obtain ⟨y, u, rfl⟩ := T.gd e he
    obtain ⟨u', e2⟩ := Value.isStrOf_shape (show Value.isStrOf x (Value.str y u) = true from q)
    have e3 : y = x := by
      injection e2
    exact ⟨_, he, show y = x from e3⟩
/-- a new text is laid -/
theorem Tx.lay (T : Tx w es t ks) {x : Str} (hx : x ∉ ks) (u : Tok) (room : ks.length + 1 < scanBound) : Tx w (layNew t es (hashStr w x) (.str x u)).1 (layNew t es (hashStr w x) (.str x u)).2.1 (ks ++ [x]) := by
  have p0 := layNew_perm t es (hashStr w x) (.str x u)
  rw [Array.toList_push] at p0
  refine ⟨?_, fun e he => ?_, ?_, ?_, layNew_fits t es _ _, layNew_ris t es _ _ T.ri, T.ld.imp id fun z => by rw [layNew_led t es _ _]; exact z⟩
  · have q := p0.map txt
    rw [List.map_append] at q
    exact q.trans (T.pm.append_right _)
  · rcases List.mem_append.mp (p0.mem_iff.mp he) with z | z
    · exact T.gd e z
    · exact ⟨x, u, List.mem_singleton.mp z⟩
  · exact List.nodup_append.mpr ⟨T.nd, by simp, fun a ha b hb e => hx (by rw [← List.mem_singleton.mp hb, ← e]; exact ha)⟩
  · rw [← Array.length_toList, p0.length_eq, List.length_append, Array.length_toList, T.len]
    exact room
/-- the table is laid anew -/
theorem Tx.relay (T : Tx w es t ks) (n : Nat) : Tx w (relayAll t es n).1 (relayAll t es n).2.1 ks := by
  have p0 := relayAll_perm t es n
  refine ⟨(p0.map txt).trans T.pm, fun e he => T.gd e (p0.mem_iff.mp he), T.nd, ?_, relayAll_fits t es n, relayAll_ris t es n, T.ld.imp id fun z => by rw [relayAll_led t es n]; exact z⟩
  rw [← Array.length_toList, p0.length_eq, Array.length_toList]
  exact T.sm
end
section
variable {P : Program} {w : World} {A : Around} {E : Value → Shared → Prop} {s : Shared} {a : Addr} {ks : List Str}
theorem put_at {h : Heap} {o : Obj} {es es' : Array (Int × Value)} {ep : Nat} {t t' : SetTable} (ho : h.get? a = some o) (hd : o.data = .set es ep t) :
    (h.update a (Obj.putSet es' t')).get? a = some { o with data := .set es' (ep + 1) t' } := by
  have q := Heap.get?_update_self (Obj.putSet es' t') ho (by rw [putSet_of es' t' hd]; rfl)
  rw [putSet_of es' t' hd] at q
  exact q
theorem putS_ok {o : Obj} {es es1 : Array (Int × Value)} {ep : Nat} {t t1 : SetTable} {Q : Unit → Shared → Prop} (ho : s.heap.get? a = some o) (hex : o.ExactSet) (hd : o.data = .set es ep t) (T : Tx w es1 t1 ks)
    (h : ∀ h' o', h'.get? a = some o' → o'.ExactSet → (∃ e', o'.data = .set es1 e' t1) → Heap.SameBut a s.heap h' → Q () { s with heap := h' }) : wpAny (model P w) A (storeSet a es1 t1) Q E s :=
  wpAny_storeSet_of ho hd (h _ _ (put_at ho hd) hex ⟨_, rfl⟩ (Heap.SameBut.update s.heap a _)) (fits_of_scanBound T.sm)
theorem gave_ok {b : Bool} {Q : Unit → Shared → Prop} (q : Q () s) : wpAny (model P w) A (match b with | true => rule "set.scan.the-table-gave-way" | false => pure ()) Q E s := by
  cases b
  · exact wpAny_pure q
  · exact wpAny_rule q
theorem addS_tail {g : Bool → Sem Unit} (hg : ∀ (b : Bool) (s₁ : Shared) (Q' : Unit → Shared → Prop), Q' () s₁ → wpAny (model P w) A (g b) Q' E s₁)
    {o : Obj} {es es1 : Array (Int × Value)} {ep : Nat} {t t1 : SetTable} {wd : Bool} {R : Option Bool → Shared → Prop} (ho : s.heap.get? a = some o) (hex : o.ExactSet) (hd : o.data = .set es ep t) (T : Tx w es1 t1 ks)
    (hR : ∀ h', Heap.SameBut a s.heap h' → SetS w h' a ks → R (some true) { s with heap := h' }) :
    wpAny (model P w) A (do
        storeSet a es1 t1
        if (!wd && t1.tooFull) = true then do
            g (relayAll t1 es1 (SetTable.grown es1.size)).2.2
            storeSet a (relayAll t1 es1 (SetTable.grown es1.size)).1 (relayAll t1 es1 (SetTable.grown es1.size)).2.1
            pure (some true)
          else pure (some true)) R E s := by
  refine wpAny_bind (putS_ok ho hex hd T fun h1 o1 ho1 hex1 ⟨e1, hd1⟩ sb1 => ?_)
  split
  · refine wpAny_bind (hg _ _ _ ?_)
    refine wpAny_bind (putS_ok (s := { s with heap := h1 }) ho1 hex1 hd1 (T.relay _) fun h2 o2 ho2 hex2 ⟨e2, hd2⟩ sb2 => ?_)
    exact wpAny_pure (hR h2 (sb1.trans sb2) ⟨o2, _, e2, _, ho2, hex2, hd2, T.relay _⟩)
  · exact wpAny_pure (hR h1 sb1 ⟨o1, es1, e1, t1, ho1, hex1, hd1, T⟩)
/-- set.add of a text, behind its hash -/
theorem addS_hashed {x : Str} {u : Tok} {Q : Bool → Shared → Prop} (R : SetS w s.heap a ks) (room : ks.length + 1 < scanBound)
    (hQ : ∀ (h' : Heap) (b : Bool), Heap.SameBut a s.heap h' → SetS w h' a (ins x ks) → Q b { s with heap := h' }) :
    wpAny (model P w) A (setAddHashed a (.str x u) ((PySem.strKind P w).hash x)) Q E s := by
  obtain ⟨o, es, ep, t, ho, hex, hd, T⟩ := R
  have hkey : (PySem.strKind P w).is x (.str x u) = true := strKind_is _ _ _ _
  have hsc : (Value.str x u).scannable = true := rfl
  have hel : ElemsOf (PySem.strKind P w) es.toList := T.elems
  unfold setAddHashed setAddHashedIn
  refine wpAny_holding (wpAny_bind (wpAny_setState_of ho hd T.ft ?_))
  dsimp only
  rw [byScan_of hsc T.sm hel]
  simp only [↓reduceIte]
  unfold setAddByScan
  refine wpAny_bind (wpAny_bind (wpAny_rule (wpAny_bind (wpAny_setScan_of hkey ho hd T.ft hel ?_))))
  by_cases hx : x ∈ ks
  · have hf : ∃ j, List.findIdx? (fun e => (PySem.strKind P w).is x e.2) es.toList = some j := by
      cases q : List.findIdx? (fun e => (PySem.strKind P w).is x e.2) es.toList with
      | some j => exact ⟨j, rfl⟩
      | none =>
        obtain ⟨e, he, z⟩ := (T.mem (P := P) x).mp hx
        have c := List.findIdx?_eq_none_iff.mp q e he
        rw [z] at c
        cases c
    obtain ⟨j, hj⟩ := hf
    rw [hj]
    dsimp only
    refine wpAny_pure (wpAny_pure ?_)
    have q : SetS w s.heap a (ins x ks) := by
      unfold ins
      rw [if_pos hx]
      exact ⟨o, es, ep, t, ho, hex, hd, T⟩
    exact hQ s.heap _ (Heap.SameBut.refl a s.heap) q
  · have hf : List.findIdx? (fun e => (PySem.strKind P w).is x e.2) es.toList = none := by
      refine List.findIdx?_eq_none_iff.mpr fun e he => ?_
      cases z : (PySem.strKind P w).is x e.2 with
      | false => rfl
      | true => exact absurd ((T.mem (P := P) x).mpr ⟨e, he, z⟩) hx
    rw [hf]
    dsimp only
    have T1 : Tx w (layNew t es ((PySem.strKind P w).hash x) (.str x u)).1 (layNew t es ((PySem.strKind P w).hash x) (.str x u)).2.1 (ks ++ [x]) := T.lay hx u room
    have ei : ins x ks = ks ++ [x] := if_neg hx
    generalize layNew t es ((PySem.strKind P w).hash x) (.str x u) = Z at T1 ⊢
    obtain ⟨es1, t1, wd, gv⟩ := Z
    dsimp only at T1 ⊢
    refine wpAny_bind (gave_ok ?_)
    have fin : ∀ h', Heap.SameBut a s.heap h' → SetS w h' a (ks ++ [x]) → wpAny (model P w) A (pure true) Q E { s with heap := h' } := fun h' sb r => wpAny_pure (hQ h' true sb (by rw [ei]; exact r))
    split
    · refine wpAny_bind ?_
      rw [hashByValue_scannable 8 hsc]
      refine wpAny_pure ?_
      refine addS_tail ?_ ho hex hd (ks := ks ++ [x]) ?_ ?_
      · intro b s₁ Q' q
        exact gave_ok q
      · split
        · exact T1
        · exact ⟨T1.pm, T1.gd, T1.nd, T1.sm, SetTable.fits_plain_off T1.ft, T1.ri, T1.ld⟩
      · intro h' sb r
        exact fin h' sb r
    · refine wpAny_bind (wpAny_pure ?_)
      simp only [↓reduceIte]
      refine addS_tail ?_ ho hex hd (ks := ks ++ [x]) T1 ?_
      · intro b s₁ Q' q
        exact gave_ok q
      · intro h' sb r
        exact fin h' sb r
end
end ZR
set_option Elab.async false
set_option linter.all false
set_option maxRecDepth 100000
set_option maxHeartbeats 4000000
/-! Rules of my own: {e for t0 in i0 for t1 in i1}, e a text. -/
namespace ZR
open PySem PySem.Spec PyProof.Rows L2
/-! ### sets of texts as tracked things -/
def SetTO (w : World) (a : Addr) (ks : List Str) : HO := .ext fun h => SetS w h a ks
theorem setTO_new {w : World} {P : Program} {H : Hp} {h : Heap} {a : Addr} {ks : List Str} (R : SetS w h a ks) : ObjOk P w H h a (SetTO w a ks) := by
  have ⟨o, _, _, _, ho, _⟩ := R
  exact ⟨R, ⟨o, ho⟩, fun h1 h2 p k => SetS.at p k⟩
theorem setTO_get {X : Cx} {pins : List (Addr × Obj)} {σ : L2.St} {H : Hp} {s : Shared} {a : Addr} {ks : List Str} (I : Inv X pins σ H s) (ha : H a = some (SetTO X.w a ks)) : SetS X.w s.heap a ks := (I.hok a _ ha).1
theorem setS_fresh {h : Heap} (w : World) : SetS w (h.push { cls := .type "set", dict := none, data := .set #[] 0 (.fresh 0 0 (!w.params.followText "set-order")) }) h.objs.size [] :=
  ⟨_, #[], 0, _, Heap.get?_push_size _ rfl, ⟨rfl, rfl, rfl⟩, rfl, .refl _, fun e he => by simp at he, List.nodup_nil, by decide, by rfl, List.Pairwise.nil, by
    show _ ∨ (!w.params.followText "set-order") = true
    cases w.params.followText "set-order"
    · exact .inr rfl
    · exact .inl rfl⟩
section
variable {X : Cx} {pins : List (Addr × Obj)} {σ : L2.St} {H : Hp} {s : Shared} {E : Value → Shared → Prop} {D : Addr} {ks : List Str} {x : Str} {u : Tok} {Q : Value → Shared → Prop}
/-- set.add of a text to a tracked set -/
theorem addT_ok (I : Inv X pins σ H s) (hD : H D = some (SetTO X.w D ks)) (room : ks.length + 1 < scanBound) (h : ∀ s', Inv X pins σ (upd H D (SetTO X.w D (ins x ks))) s' → Q .none s') :
    wpAny (model X.prog X.w) X.A (call (.builtin "set.add") [.ref D, .str x u]) Q E s := by
  have R := setTO_get I hD
  have hT : s.TypeIs (.ref D) "set" := by
    obtain ⟨o, _, _, _, ho, hex, _⟩ := R
    exact ⟨o, ho, hex.1⟩
  refine wpAny_call_entry F.slot_set_add hT F.entry_set_add ?_ (F.args_set_add_2 _ _)
  unfold Builtin.«set.add» Builtin.Frozenset.oneOther
  simp only [List.isEmpty_nil, bind_assoc]
  unfold Builtin.Frozenset.addrOf setAdd
  refine wpAny_bind (wpAny_pure ?_)
  try dsimp only
  refine wpAny_bind (wpAny_pure ?_)
  try dsimp only
  refine wpAny_bind (wpAny_holding (wpAny_bind ((PySem.strKind X.prog X.w).pyHash (k := x) (strKind_is _ _ _ _) ?_)))
  refine addS_hashed (s := { s with toks := s.toks + 1 }) R room fun h' b sb r => ?_
  show wpAny _ _ (ret Value.none) _ _ _
  refine wpAny_pure ⟨_, rfl, ?_⟩
  obtain ⟨o, es, ep, t, ho, rr⟩ := id r
  exact h _ (I.write (e := D) (t' := s.toks + 1) (by rw [hD]; trivial) (.inl rfl) (fun b u hb hu => (sb.2 b hb).trans hu) ⟨o, ho⟩ (setTO_new r))
end
/-! ### the comprehension's code -/
abbrev SC2 (elt t0 i0 t1 i1 : Expr) (sc : Scope) (pos : Pos) : Expr := .SetComp elt [⟨t0, i0, [], 0⟩, ⟨t1, i1, [], 0⟩] sc pos
section
variable {elt t0 i0 t1 i1 : Expr} {sc : Scope} {pos : Pos} {it acc : Value} {env : Env}
theorem turn_0 : compTurn (SC2 elt t0 i0 t1 i1 sc pos) 0 it acc env = (do
    standAt i0.pos
    match ← pyNext it with
    | none => pure (.done .next)
    | some v =>
      letOwnedTupleGo t0 it v
      assign t0 env v
      let x ← eval i1 env
      standAt i1.pos
      let x ← foldedSetIterable i1 env x
      let _ ← runOwn (.compStart (SC2 elt t0 i0 t1 i1 sc pos) 1 (← holding [x] (pyIter x)) acc env) env
      again (.compLoop (SC2 elt t0 i0 t1 i1 sc pos) 0 it acc env)) := by rfl
theorem turn_1 : compTurn (SC2 elt t0 i0 t1 i1 sc pos) 1 it acc env = (do
    standAt i1.pos
    match ← pyNext it with
    | none => pure (.done .next)
    | some v =>
      letOwnedTupleGo t1 it v
      assign t1 env v
      (do let v ← eval elt env; standAt elt.pos; let _ ← call (.builtin "set.add") [acc, v])
      again (.compLoop (SC2 elt t0 i0 t1 i1 sc pos) 1 it acc env)) := by rfl
end
section
variable {prog : Program} {w : World} {A : Around} {R : Result → Shared → Prop} {s : Shared} {elt t0 i0 t1 i1 : Expr} {sc : Scope} {pos : Pos} {it acc : Value} {env : Env}
/-- what is wished where the block raises -/
abbrev Nt (prog : Program) (w : World) (A : Around) (env : Env) (R : Result → Shared → Prop) : Value → Shared → Prop := notedBy (model prog w) A env fun e s' => R (.error e) s'
theorem loop_0 (hs : ∀ x, foldedSetIterable i1 env x = pure x) (I : Nat → Shared → Prop)
    (turn : ∀ n s, I n s → wpAny (model prog w) A (pyNext it) (fun r s1 => match r with
      | none => R (.ok .next) s1
      | some v => wpAny (model prog w) A (letOwnedTupleGo t0 it v) (fun _ s2 => wpAny (model prog w) A (assign t0 env v) (fun _ s3 => wpAny (model prog w) A (eval i1 env) (fun x s4 => wpAny (model prog w) A (pyIter x) (fun it1 s5 =>
          codeAny (model prog w) A (.compStart (SC2 elt t0 i0 t1 i1 sc pos) 1 it1 acc env) (fun r s' => (∃ f, r = .ok f) ∧ ∃ m, m < n ∧ I m s') s5)
        (Nt prog w A env R) s4) (Nt prog w A env R) s3) (Nt prog w A env R) s2) (Nt prog w A env R) s1) (Nt prog w A env R) s)
    (n : Nat) (h : I n s) : codeAny (model prog w) A (.compLoop (SC2 elt t0 i0 t1 i1 sc pos) 0 it acc env) R s := by
  refine codeAny_loop rfl I (fun n s hI => ?_) n h
  show wpAny _ A ((compTurn (SC2 elt t0 i0 t1 i1 sc pos) 0 it acc env).onRaise (fun x => do noteFrame x env; theTreesLotGoes x)) _ _ s
  refine wpAny_noted ?_
  rw [turn_0]
  refine wpAny_bind (wpAny_standAt (wpAny_bind (wpAny_mono (turn n s hI) (fun r s1 h1 => ?_) fun _ _ z => z)))
  cases r with
  | none => exact wpAny_pure h1
  | some v =>
    refine wpAny_bind (wpAny_mono h1 (fun _ s2 h2 => wpAny_bind (wpAny_mono h2 (fun _ s3 h3 => wpAny_bind (wpAny_mono h3 (fun x s4 h4 => ?_) fun _ _ z => z)) fun _ _ z => z)) fun _ _ z => z)
    refine wpAny_bind (wpAny_standAt (wpAny_bind (wpAny_of_eq (hs x) (wpAny_bind (wpAny_holding (wpAny_mono h4 (fun it1 s5 h5 => ?_) fun _ _ z => z))))))
    refine wpAny_bind (wpAny_runOwn ?_)
    rw [Around.mark_none]
    refine codeAny_mono h5 fun r s' hr => ?_
    obtain ⟨⟨f, rfl⟩, hm⟩ := hr
    first
      | exact wpAny_pure ⟨rfl, hm⟩
      | exact wpAny_bind (wpAny_pure (wpAny_pure ⟨rfl, hm⟩))
theorem loop_1 (I : Nat → Shared → Prop)
    (turn : ∀ n s, I n s → wpAny (model prog w) A (pyNext it) (fun r s1 => match r with
      | none => R (.ok .next) s1
      | some v => wpAny (model prog w) A (letOwnedTupleGo t1 it v) (fun _ s2 => wpAny (model prog w) A (assign t1 env v) (fun _ s3 => wpAny (model prog w) A (eval elt env) (fun x s4 =>
          wpAny (model prog w) A (call (.builtin "set.add") [acc, x]) (fun _ s' => ∃ m, m < n ∧ I m s')
        (Nt prog w A env R) s4) (Nt prog w A env R) s3) (Nt prog w A env R) s2) (Nt prog w A env R) s1) (Nt prog w A env R) s)
    (n : Nat) (h : I n s) : codeAny (model prog w) A (.compLoop (SC2 elt t0 i0 t1 i1 sc pos) 1 it acc env) R s := by
  refine codeAny_loop rfl I (fun n s hI => ?_) n h
  show wpAny _ A ((compTurn (SC2 elt t0 i0 t1 i1 sc pos) 1 it acc env).onRaise (fun x => do noteFrame x env; theTreesLotGoes x)) _ _ s
  refine wpAny_noted ?_
  rw [turn_1]
  refine wpAny_bind (wpAny_standAt (wpAny_bind (wpAny_mono (turn n s hI) (fun r s1 h1 => ?_) fun _ _ z => z)))
  cases r with
  | none => exact wpAny_pure h1
  | some v =>
    refine wpAny_bind (wpAny_mono h1 (fun _ s2 h2 => wpAny_bind (wpAny_mono h2 (fun _ s3 h3 => ?_) fun _ _ z => z)) fun _ _ z => z)
    refine wpAny_bind (wpAny_bind (wpAny_mono h3 (fun x s4 h4 => wpAny_bind (wpAny_standAt (wpAny_bind (wpAny_mono h4 (fun _ s' hm => ?_) fun _ _ z => z)))) fun _ _ z => z))
    first
      | exact wpAny_pure (wpAny_pure ⟨rfl, hm⟩)
      | exact wpAny_pure ⟨rfl, hm⟩
theorem start_1 (h0 : codeAny (model prog w) A (.compLoop (SC2 elt t0 i0 t1 i1 sc pos) 1 it acc env) R s)
    (h : wpAny (model prog w) A (pyIter it) (fun it' s' => codeAny (model prog w) A (.compLoop (SC2 elt t0 i0 t1 i1 sc pos) 1 it' acc env) R s') (Nt prog w A env R) s) :
    codeAny (model prog w) A (.compStart (SC2 elt t0 i0 t1 i1 sc pos) 1 it acc env) R s := by
  refine codeAny_of_tree ?_
  show wpAny _ _ ((compStart (SC2 elt t0 i0 t1 i1 sc pos) 1 it acc env).onRaise (fun x => do noteFrame x env; standAt theWindowsPlace)) _ _ s
  refine wpAny_notedAt ?_
  unfold compStart
  show wpAny _ _ (ask >>= _) _ _ s
  refine wpAny_bind (wpAny_askSetting (wpAny_ite ?_))
  split
  · first
      | exact wpAny_bind (wpAny_pure (wpAny_pure (And.intro rfl h0)))
      | exact wpAny_pure (And.intro rfl h0)
  · first
      | exact wpAny_bind (wpAny_rule (wpAny_bind (wpAny_standAt (wpAny_bind (wpAny_mono h (fun it' s' h' => wpAny_pure (And.intro rfl h')) fun _ _ x => x)))))
      | (refine wpAny_bind (wpAny_rule ?_); show wpAny _ _ (standAt i1.pos >>= _) _ _ s; exact wpAny_bind (wpAny_standAt (wpAny_bind (wpAny_mono h (fun it' s' h' => wpAny_pure (And.intro rfl h')) fun _ _ x => x))))
end
end ZR
set_option Elab.async false
set_option linter.all false
set_option maxRecDepth 100000
set_option maxHeartbeats 4000000
namespace ZR
open PySem PySem.Spec PyProof.Rows L2
theorem wipe_keep {x : Option V} {i : Nat} : ∀ {vs : List Nat} {σ : L2.St}, σ[i]? = some x → ¬ i ∈ vs → (wipe σ vs)[i]? = some x
  | [], σ, h, _ => h
  | v :: vs, σ, h, n => by
    show ((wipe σ vs).set v none)[i]? = some x
    have hne : v ≠ i := fun e => n (by rw [e]; exact List.mem_cons_self)
    rw [List.getElem?_set_ne hne]
    exact wipe_keep h fun z => n (List.mem_cons_of_mem _ z)
/-! ### one turn of a walk within a block -/
/-- between two turns -/
def Mid (Y : Cx) (fpw : List Addr) (tn : Nat → Heap → Prop) (π : List (Addr × Obj)) (σ0 : L2.St) (W : Nat → Nat → Hp → Prop) (n : Nat) (s : Shared) : Prop :=
  ∃ i H, Inv Y π σ0 H s ∧ tn i s.heap ∧ (∀ b ∈ fpw, H b = none) ∧ W i n H
theorem walk_turn {Y : Cx} {tg : Expr} {J : It} {fpw : List Addr} {it : Addr} {tn : Nat → Heap → Prop} {π : List (Addr × Obj)} {σ0 : L2.St} {vs : List Nat} {g : TG} {W : Nat → Nat → Hp → Prop} {rest : L2.St → Hp → (Hp → Prop) → Prop} {Qs : Hp → Prop}
    (hc : Y.calm = true) (hx : Y.xe = fun _ _ => False) (T : Turn Y.prog Y.w Y.K tg J fpw it tn) (pg : PG Y tg g) (hst : ∀ H, (∀ b ∈ fpw, H b = none) → ∀ b ∈ fpw, FpOk Y π H b)
    (turn : ∀ i m H, W i m H → (J.stop i H ∧ Qs H) ∨ (J.go i H ∧ ∃ Nx : Hp → Prop, (∀ H', Nx H' → ∃ m', m' < m ∧ W (i + 1) m' H') ∧ ∀ x H', J.yld i H x H' → g x σ0 H' fun σ2 H2 => wipe σ2 vs = σ0 ∧ rest σ2 H2 Nx))
    {n : Nat} {s : Shared} (hK : Mid Y fpw tn π σ0 W n s) {Rn Rb : Shared → Prop} {N : Value → Shared → Prop}
    (hstop : ∀ H s', Inv Y π σ0 H s' → Qs H → Rn s')
    (hgo : ∀ σ8 H8 s8 h7 (Nx : Hp → Prop), Inv Y (π ++ pinsAt fpw h7) σ8 H8 s8 → wipe σ8 vs = σ0 → rest σ8 H8 Nx →
      (∀ σ9 H' s', Inv Y (π ++ pinsAt fpw h7) σ9 H' s' → σ0.length = σ9.length → (∀ (j : Nat) v, σ0[j]? = some (some v) → σ9[j]? = some (some v)) → Nx H' → ∃ m, m < n ∧ Mid Y fpw tn π σ0 W m s') → Rb s8) :
    wpAny (model Y.prog Y.w) Y.A (pyNext (.ref it)) (fun r s1 => match r with
      | none => Rn s1
      | some v => wpAny (model Y.prog Y.w) Y.A (letOwnedTupleGo tg (.ref it) v) (fun _ s2 => wpAny (model Y.prog Y.w) Y.A (assign tg Y.env v) (fun _ s3 => Rb s3) N s2) N s1) N s := by
  obtain ⟨i, H, I, st, hn, w⟩ := hK
  rcases turn i n H w with ⟨stop, q⟩ | ⟨go, Nx, hNx, step⟩
  · refine thnF (T.done Y rfl rfl rfl hc i π s σ0 H (fun _ _ => False) I (hst H hn) st stop) fun r s1 ⟨hr, I1⟩ => ?_
    subst hr
    exact hstop H s1 I1 q
  · refine thnF (T.item Y rfl rfl rfl hc i π s σ0 H (fun _ _ => False) I (hst H hn) st go) fun r s1 ⟨u, hr, h1⟩ => ?_
    subst hr
    refine thnF h1 fun _ s2 ⟨x, H2, I2, r2, y2, st2, n2⟩ => ?_
    have P2 := I2.pinned (hst H2 n2) (T.obj _ _ st2)
    have pr := pg.run _ s2 σ0 H2 x u _ P2 r2 (step x H2 y2)
    rw [hx] at pr
    refine thnF pr fun _ s3 ⟨σ8, H8, I8, hw8, q8⟩ => ?_
    refine hgo σ8 H8 s3 s2.heap Nx I8 hw8 q8 fun σ9 H' s' I' hl hk nx => ?_
    obtain ⟨m', hm, w'⟩ := hNx H' nx
    have pin : ∀ b ∈ fpw, ∀ o, s2.heap.get? b = some o → s'.heap.get? b = some o ∧ H' b = none := fun b hb o e =>
      let z := I'.pin (b, o) (List.mem_append_right _ (List.mem_append_right _ (mem_pinsAt hb e)))
      ⟨z.1, z.2.1⟩
    refine ⟨m', hm, i + 1, H', (I'.unpinned (pins := π)).weak hl hk, T.keep _ _ _ st2 fun b hb o e => (pin b hb o e).1, fun b hb => ?_, w'⟩
    obtain ⟨o, e, _⟩ := T.obj _ _ st2 b hb
    exact (pin b hb o e).2
/-! ### the comprehension -/
/-- {elt for tg in iter for tg1 in iter1}, elt a text; vs: the block's names, vs1: those of the second target -/
def tSc2 (w : World) (wi : TI) (g : TG) (wi1 : TI) (g1 : TG) (te : TE) (vs vs1 : List Nat) : TE := fun σ H Q => wi σ H fun J H1 => ∀ D, H1 D = none → ∃ W : Nat → Nat → Hp → Prop, (∃ m, W 0 m (upd H1 D (SetTO w D []))) ∧ ∀ i m H, W i m H →
  (J.stop i H ∧ Q (.ref D) H) ∨ (J.go i H ∧ ∃ Nx : Hp → Prop, (∀ H', Nx H' → ∃ m', m' < m ∧ W (i + 1) m' H') ∧ ∀ x H', J.yld i H x H' → g x (wipe σ vs) H' fun σ2 H2 => wipe σ2 vs = wipe σ vs ∧
    wi1 σ2 H2 fun J1 H4 => ∃ W1 : Nat → Nat → Hp → Prop, (∃ k, W1 0 k H4) ∧ ∀ j k H, W1 j k H → (J1.stop j H ∧ Nx H) ∨ (J1.go j H ∧ ∃ Nx1 : Hp → Prop, (∀ H', Nx1 H' → ∃ k', k' < k ∧ W1 (j + 1) k' H') ∧
      ∀ x H', J1.yld j H x H' → g1 x (wipe σ2 vs1) H' fun σ3 H5 => wipe σ3 vs1 = wipe σ2 vs1 ∧ te σ3 H5 fun y H6 => ∃ (z : Str) (ks : List Str), y = .str z ∧ H6 D = some (SetTO w D ks) ∧ ks.length + 1 < scanBound ∧ Nx1 (upd H6 D (SetTO w D (ins z ks)))))
section
variable {X : Cx}
theorem pe_sc2 {elt tg iter tg1 iter1 : Expr} {scope : Scope} {own : List (Str × Nat)} {vs1 : List Nat} {pos : Pos} {wi wi1 : TI} {g g1 : TG} {te : TE} (hc : X.calm = true) (hN : X.N.Nodup) (hi : PI X tg iter wi) (ok : BlkOk X.N X.env.scope scope own) (hv : ∀ i ∈ vs1, i ∈ own.map (·.2))
    (hg : ∀ (s : Shared) (H : Hp) (C : Addr) (cl : List (Str × Addr)) (fp : List Addr), PG (X.blk s H scope (compEnvC scope cl C X.env) fp) tg g)
    (hi1 : ∀ (s : Shared) (H : Hp) (C : Addr) (cl : List (Str × Addr)) (fp : List Addr), PI (X.blk s H scope (compEnvC scope cl C X.env) fp) tg1 iter1 wi1)
    (hg1 : ∀ (s : Shared) (H : Hp) (C : Addr) (cl : List (Str × Addr)) (fp : List Addr), PG (X.blk s H scope (compEnvC scope cl C X.env) fp) tg1 g1)
    (he : ∀ (s : Shared) (H : Hp) (C : Addr) (cl : List (Str × Addr)) (fp : List Addr), PE (X.blk s H scope (compEnvC scope cl C X.env) fp) elt te)
    (hs : ∀ x, foldedSetIterable iter X.env x = pure x := by intro _; rfl) (hs1 : ∀ env x, foldedSetIterable iter1 env x = pure x := by intro _ _; rfl) :
    PE X (.SetComp elt [⟨tg, iter, [], 0⟩, ⟨tg1, iter1, [], 0⟩] scope pos) (tSc2 X.w wi g wi1 g1 te (own.map (·.2)) vs1) := by
  refine ⟨fun pins s σ H Q I h => ?_⟩
  rw [PpSet.eval_SetComp]
  have hfree : ∀ y ∈ scope.names, y.2 = .free → ∃ c, X.env.cells.lookup y.1 = some c := fun y hy e => (ok.free y hy e).elim (fun k => I.ok.has _ (.inl k)) fun k => I.ok.has _ (.inr k)
  refine wpAny_comprehension_free (use := none) rfl hs (closure_ok hfree) ok.kind (fun y hy e => by rw [ok.uniq y hy, e])
    (thn (hi.run pins s σ H _ I h) fun xv s1 hx => thn hx fun itv s2 ⟨it, fp, tn, J, H2, e, I2, T, st2, f2, q⟩ => ?_)
  subst e
  refine PpSet.newSet_ok (newEnv_comp ?_)
  -- the new set
  generalize hD : s2.heap.objs.size = D
  obtain ⟨W, ⟨m0, w0⟩, turn⟩ := q D (I2.hok.fresh (Nat.le_of_eq hD))
  generalize hS : ({ s2 with heap := s2.heap.push { cls := .type "set", dict := none, data := .set #[] 0 (.fresh 0 0 (!X.w.params.followText "set-order")) } } : Shared) = s3
  have kp : ∀ b o, s2.heap.get? b = some o → s3.heap.get? b = some o := fun b o e => by
    rw [← hS]
    exact Heap.get?_push_of_some _ e
  have sz3 : s3.heap.objs.size = s2.heap.objs.size + 1 := by
    rw [← hS]
    exact Heap.size_push _ _
  have I3 : Inv X pins σ (upd H2 D (SetTO X.w D [])) s3 := by
    rw [← hS]
    refine I2.laid (t' := s2.toks) (fun b o e => Heap.get?_push_of_some _ e) (Nat.le_of_eq hD) ?_
    rw [← hD]
    exact setTO_new (setS_fresh X.w)
  have f3 : ∀ b ∈ fp, FpOk X pins (upd H2 D (SetTO X.w D [])) b ∧ b < s3.heap.objs.size := fun b hb => by
    obtain ⟨o, e, _⟩ := T.obj _ _ st2 b hb
    have hlt := Heap.lt_size e
    refine ⟨⟨?_, (f2 b hb).2⟩, by rw [sz3]; exact Nat.lt_succ_of_lt hlt⟩
    rw [upd_ne (by rw [← hD]; exact Nat.ne_of_lt hlt)]
    exact (f2 b hb).1
  have st3 : tn 0 s3.heap := T.keep _ _ _ st2 fun b _ o e => kp b o e
  have I4 := block_start I3 ok hN f3
  generalize hcl : cellsFrom (s3.heap.objs.size + 1) scope.names (cloFrom X.env.cells scope.names []) = cl at I4
  have pg := hg s3 (upd H2 D (SetTO X.w D [])) s3.heap.objs.size cl fp
  have pi1 := hi1 s3 (upd H2 D (SetTO X.w D [])) s3.heap.objs.size cl fp
  have pg1 := hg1 s3 (upd H2 D (SetTO X.w D [])) s3.heap.objs.size cl fp
  have pe := he s3 (upd H2 D (SetTO X.w D [])) s3.heap.objs.size cl fp
  show codeAny (model X.prog X.w) X.A (.compStart (SC2 elt tg iter tg1 iter1 scope pos) 0 (.ref it) (.ref D) (compEnvC scope cl s3.heap.objs.size X.env)) (compPost (model X.prog X.w) X.A X.xe none (EP X pins σ Q) (.ref D) s3.heap.objs.size) { s3 with heap := pushCells (s3.heap.push { cls := .type "dict", data := .dict #[] }) scope.names }
  have nfp : ∀ b ∈ fp, (upd H2 D (SetTO X.w D [])) b = none := fun b hb => (f3 b hb).1.1
  generalize hce : compEnvC scope cl s3.heap.objs.size X.env = ce at I4 pg pi1 pg1 pe ⊢
  have cL : ce.locals = s3.heap.objs.size := by
    subst hce
    rfl
  generalize hH3 : upd H2 D (SetTO X.w D []) = H3 at I3 I4 pg pi1 pg1 pe w0 nfp f3
  generalize hs4 : ({ s3 with heap := pushCells (s3.heap.push { cls := .type "dict", data := .dict #[] }) scope.names } : Shared) = s4 at I4 ⊢
  have st4 : tn 0 s4.heap := T.keep _ _ _ st3 fun b _ o e => by
    rw [← hs4]
    exact pushCells_keeps _ _ _ _ (Heap.get?_push_of_some _ e)
  have stat : ∀ {σ' : L2.St} {H' : Hp} {s' : Shared} {π : List (Addr × Obj)} {fpw : List Addr}, Inv (X.blk s3 H3 scope ce fp) [] σ' H' s' → (∀ b ∈ fp, H' b = none) → ∀ b ∈ fp, FpOk (X.blk s3 H3 scope ce fp) [] H' b := fun {σ' H' s' _ _} I' hn b hb =>
    ⟨hn b hb, (I'.ok.exf b hb).1, I'.ok.exfs b hb, .inl hb, fun x c e => (I'.ok.exf b hb).2 x c e, fun p hp => absurd (show p ∈ ([] : List (Addr × Obj)) ++ [] from hp) (by simp)⟩
  have stat0 : ∀ H', (∀ b ∈ fp, H' b = none) → ∀ b ∈ fp, FpOk (X.blk s3 H3 scope ce fp) [] H' b := fun H' hn b hb =>
    ⟨hn b hb, (I4.ok.exf b hb).1, I4.ok.exfs b hb, .inl hb, fun x c e => (I4.ok.exf b hb).2 x c e, fun p hp => absurd (show p ∈ ([] : List (Addr × Obj)) ++ [] from hp) (by simp)⟩
  have loop : codeAny (model X.prog X.w) X.A (.compLoop (SC2 elt tg iter tg1 iter1 scope pos) 0 (.ref it) (.ref D) ce) (compPost (model X.prog X.w) X.A X.xe none (EP X pins σ Q) (.ref D) s3.heap.objs.size) s4 := by
    refine loop_0 (hs1 _) (Mid (X.blk s3 H3 scope ce fp) fp tn [] (wipe σ (own.map (·.2))) W) (fun n s5 hM => ?_) m0 ⟨0, H3, I4, st4, nfp, w0⟩
    refine walk_turn (Y := X.blk s3 H3 scope ce fp) hc rfl T pg stat0 turn hM (fun H5 s6 I6 qq => ?_) (fun σ8 H8 s8 h7 Nx I8 hw8 q8 back => ?_)
    · have I7 : Inv X pins σ H5 s6 := I3.call' (ch := fp) I6.os I6.base I6.hok I6.bare fun b hb => ⟨(f3 b hb).1.2.2.2.1, (f3 b hb).1.2.1, (f3 b hb).1.2.2.2.2.1, (f3 b hb).1.2.2.2.2.2⟩
      have nC : H5 s3.heap.objs.size = none := by
        have z : H5 ce.locals = none := I6.free
        rw [cL] at z
        exact z
      obtain ⟨m, hn, _⟩ := I6.loc
      have hn : s6.heap.Ns ce.locals m := hn
      rw [cL] at hn
      obtain ⟨f0, f1, f2, f3, f4, f5⟩ := I3.fpOk (Nat.le_refl _) nC
      exact ⟨m, hn, fun h'' sb => ⟨.ref D, H5, I7.turned (t' := s6.toks) (fun b o hb e => (sb.2 b hb).trans e) f0 f1 f3 f4 f5, rfl, qq⟩⟩
    · refine thnF (pi1.run _ s8 σ8 H8 _ I8 q8) fun xv1 s9 hx1 => thnF hx1 fun itv1 s10 ⟨it1, fp1, tn1, J1, H4, e1, I10, T1, st10, f10, W1, ⟨k0, w1⟩, turn1⟩ => ?_
      subst e1
      have I10' := I10.weak (σ' := wipe σ8 vs1) (wipe_length ..) fun j v e => (wipe_some e).1
      refine start_1 ?_ (T1.self _ 0 _ _ _ st10 ?_)
      all_goals
        refine loop_1 (Mid (X.blk s3 H3 scope ce fp) fp1 tn1 _ (wipe σ8 vs1) W1) (fun k s11 hM1 => ?_) k0 ⟨0, H4, I10', st10, fun b hb => (f10 b hb).1, w1⟩
        refine walk_turn (Y := X.blk s3 H3 scope ce fp) hc rfl T1 pg1 (fun H' hn b hb => ⟨hn b hb, (f10 b hb).2⟩) turn1 hM1 (fun H5 s6 I6 qq => ?_) (fun σ9 H9 s12 h8 Nx1 I9 hw9 q9 back1 => ?_)
        · refine ⟨⟨_, rfl⟩, back _ _ _ I6 ?_ ?_ qq⟩
          · have z := congrArg List.length hw8
            rw [wipe_length, wipe_length] at z
            rw [wipe_length, wipe_length, z]
          · intro j v e
            rw [← hw8] at e
            obtain ⟨e1, e2⟩ := wipe_some e
            exact wipe_keep e1 fun z => e2 (hv j z)
        · refine thnF (pe.run _ s12 σ9 H9 _ I9 q9) fun z s13 ⟨yv, H10, I11, r10, zz, ks, ey, hD10, hz10, nx⟩ => ?_
          subst ey
          obtain ⟨u, hu⟩ : ∃ u, z = Value.str zz u := r10
          subst hu
          exact addT_ok (X := X.blk s3 H3 scope ce fp) I11 hD10 hz10 fun s14 I14 => back1 _ _ _ I14 (by have z := congrArg List.length hw9; rw [wipe_length, wipe_length] at z; rw [wipe_length, z]) (fun j v e => (wipe_some (by rw [hw9]; exact e)).1) nx
  exact PpSet.codeAny_compStart_set loop (T.self X.A 0 _ _ _ st4 loop)
end
end ZR
set_option Elab.async false
set_option linter.all false
set_option maxRecDepth 100000
set_option maxHeartbeats 4000000
/-! Comprehensions whose words are not opened by themselves. -/
namespace ZR
open PySem PySem.Spec PyProof.Rows L2
@[irreducible] def tLcS (wi : TI) (g : TG) (tt : TT) (te : TE) (vs : List Nat) : TE := tLc wi g tt te vs
theorem lcS : @tLcS = @tLc := by
  funext wi g tt te vs
  unfold tLcS
  rfl
@[irreducible] def tSc2S (w : World) (wi : TI) (g : TG) (wi1 : TI) (g1 : TG) (te : TE) (vs vs1 : List Nat) : TE := tSc2 w wi g wi1 g1 te vs vs1
theorem sc2S : @tSc2S = @tSc2 := by
  funext w wi g wi1 g1 te vs vs1
  unfold tSc2S
  rfl
section
variable {X : Cx}
theorem pe_lcS {elt tg iter : Expr} {ifs : List Expr} {scope : Scope} {own : List (Str × Nat)} {pos : Pos} {wi : TI} {g : TG} {tt : TT} {te : TE} (hc : X.calm = true) (hN : X.N.Nodup) (hi : PI X tg iter wi) (ok : BlkOk X.N X.env.scope scope own)
    (hg : ∀ (s : Shared) (H : Hp) (C : Addr) (cl : List (Str × Addr)) (fp : List Addr), PG (X.blk s H scope (compEnvC scope cl C X.env) fp) tg g) (ht : ∀ (s : Shared) (H : Hp) (C : Addr) (cl : List (Str × Addr)) (fp : List Addr), PTs (X.blk s H scope (compEnvC scope cl C X.env) fp) ifs tt)
    (he : ∀ (s : Shared) (H : Hp) (C : Addr) (cl : List (Str × Addr)) (fp : List Addr), PE (X.blk s H scope (compEnvC scope cl C X.env) fp) elt te) (hs : ∀ x, foldedSetIterable iter X.env x = pure x := by intro _; rfl) :
    PE X (.ListComp elt [⟨tg, iter, ifs, 0⟩] scope pos) (tLcS wi g tt te (own.map (·.2))) := by
  rw [lcS]
  exact pe_lc hc hN hi ok hg ht he hs
theorem ps_setLcS {i : Nat} {y : Str} {py : Pos} {elt tg iter : Expr} {ifs : List Expr} {scope : Scope} {own : List (Str × Nat)} {pos spos : Pos} {wi : TI} {g : TG} {tt : TT} {te : TE} (hc : X.calm = true) (hN : X.N.Nodup) (hy : X.N[i]? = some y) (hyl : X.env.scope.names.lookup y = some .local)
    (hsw : swapsWith (.ListComp elt [⟨tg, iter, ifs, 0⟩] scope pos) (some (.Name y py)) spos.line X.env = pure true) (hi : PI X tg iter wi) (ok : BlkOk X.N X.env.scope scope own)
    (hg : ∀ (s : Shared) (H : Hp) (C : Addr) (cl : List (Str × Addr)) (fp : List Addr), PG (X.blk s H scope (compEnvC scope cl C X.env) fp) tg g) (ht : ∀ (s : Shared) (H : Hp) (C : Addr) (cl : List (Str × Addr)) (fp : List Addr), PTs (X.blk s H scope (compEnvC scope cl C X.env) fp) ifs tt)
    (he : ∀ (s : Shared) (H : Hp) (C : Addr) (cl : List (Str × Addr)) (fp : List Addr), PE (X.blk s H scope (compEnvC scope cl C X.env) fp) elt te) (hs : ∀ x, foldedSetIterable iter X.env x = pure x := by intro _; rfl) :
    PS X (.Assign [.Name y py] (.ListComp elt [⟨tg, iter, ifs, 0⟩] scope pos) spos) (tAsg (tLcS wi g tt te (own.map (·.2))) (gName i)) := by
  rw [lcS]
  exact ps_setLc hc hN hy hyl hsw hi ok hg ht he hs
theorem pe_sc2S {elt tg iter tg1 iter1 : Expr} {scope : Scope} {own : List (Str × Nat)} {vs1 : List Nat} {pos : Pos} {wi wi1 : TI} {g g1 : TG} {te : TE} (hc : X.calm = true) (hN : X.N.Nodup) (hi : PI X tg iter wi) (ok : BlkOk X.N X.env.scope scope own) (hv : ∀ i ∈ vs1, i ∈ own.map (·.2))
    (hg : ∀ (s : Shared) (H : Hp) (C : Addr) (cl : List (Str × Addr)) (fp : List Addr), PG (X.blk s H scope (compEnvC scope cl C X.env) fp) tg g)
    (hi1 : ∀ (s : Shared) (H : Hp) (C : Addr) (cl : List (Str × Addr)) (fp : List Addr), PI (X.blk s H scope (compEnvC scope cl C X.env) fp) tg1 iter1 wi1)
    (hg1 : ∀ (s : Shared) (H : Hp) (C : Addr) (cl : List (Str × Addr)) (fp : List Addr), PG (X.blk s H scope (compEnvC scope cl C X.env) fp) tg1 g1)
    (he : ∀ (s : Shared) (H : Hp) (C : Addr) (cl : List (Str × Addr)) (fp : List Addr), PE (X.blk s H scope (compEnvC scope cl C X.env) fp) elt te)
    (hs : ∀ x, foldedSetIterable iter X.env x = pure x := by intro _; rfl) (hs1 : ∀ env x, foldedSetIterable iter1 env x = pure x := by intro _ _; rfl) :
    PE X (.SetComp elt [⟨tg, iter, [], 0⟩, ⟨tg1, iter1, [], 0⟩] scope pos) (tSc2S X.w wi g wi1 g1 te (own.map (·.2)) vs1) := by
  rw [sc2S]
  exact pe_sc2 hc hN hi ok hv hg hi1 hg1 he hs hs1
/-! cuts -/
def tCutE (te : TE) : TE := fun σ H Q => ∃ M : VK, te σ H M ∧ ∀ v H', M v H' → Q v H'
theorem pe_cut {e : Expr} {te : TE} (h : PE X e te) : PE X e (tCutE te) := ⟨fun pins s σ H Q I ⟨M, h1, h2⟩ => thn (h.run pins s σ H M I h1) fun u s' ⟨v, H', I', r, q⟩ => ⟨v, H', I', r, h2 v H' q⟩⟩
def tCutT (tt : TT) : TT := fun σ H Q => ∃ M : Bool → Hp → Prop, tt σ H M ∧ ∀ b H', M b H' → Q b H'
theorem pt_cut {e : Expr} {tt : TT} (h : PT X e tt) : PT X e (tCutT tt) := ⟨fun pins s σ H Q I ⟨M, h1, h2⟩ => thn (h.run pins s σ H M I h1) fun b s' ⟨H', I', q⟩ => ⟨H', I', h2 b H' q⟩⟩
def tCutS (t : TS) : TS := fun D σ H => ∃ Mid : L2.St → Hp → Prop, t { D with nx := Mid } σ H ∧ ∀ σ' H', Mid σ' H' → D.nx σ' H'
theorem ps_cut {st : Stmt} {t : TS} (h : PS X st t) : PS X st (tCutS t) := by
  refine ⟨fun pins s σ H D I ⟨Mid, h1, h2⟩ => thn (h.run pins s σ H { D with nx := Mid } I h1) fun f s1 q => ?_⟩
  cases f with
  | next =>
    obtain ⟨σ', H', I', q⟩ := q
    exact ⟨σ', H', I', h2 σ' H' q⟩
  | ret v => exact q
  | brk => exact q
  | cont => exact q
end
end ZR
set_option Elab.async false
set_option linter.all false
set_option maxRecDepth 100000
set_option maxHeartbeats 4000000
/-! Programs: rows and blocks as own data, how they stand in the heap, their numbering. -/
namespace PM
open PySem PySem.Spec PyProof.Rows L2 ZX
inductive Rw where
  | note (x o : Str) (ps : List Str)
  | copy (x y : Str)
  | give (x : Str) (i : Int)
  | ask (x : Str)
  | prt (x : Str)
  | either (a b : List Rw)
  | again (a : List Rw)
mutual
def dR : Rw → PyData
  | .note x o ps => .tuple [.str "note", .str x, .str o, .tuple (ps.map .str)]
  | .copy x y => .tuple [.str "copy", .str x, .str y]
  | .give x i => .tuple [.str "give", .str x, .int i]
  | .ask x => .tuple [.str "ask", .str x]
  | .prt x => .tuple [.str "print", .str x]
  | .either a b => .tuple [.str "either", .tuple (dB a), .tuple (dB b)]
  | .again a => .tuple [.str "again", .tuple (dB a)]
def dB : List Rw → List PyData
  | [] => []
  | r :: b => dR r :: dB b
end
mutual
/-- a row and those within -/
def rowsR : Rw → List Rw
  | .either a b => .either a b :: (rowsB a ++ rowsB b)
  | .again a => .again a :: rowsB a
  | .note x o ps => [.note x o ps]
  | .copy x y => [.copy x y]
  | .give x i => [.give x i]
  | .ask x => [.ask x]
  | .prt x => [.prt x]
def rowsB : List Rw → List Rw
  | [] => []
  | r :: b => rowsR r ++ rowsB b
end
/-- the blocks within a row -/
def inner : Rw → List (List Rw)
  | .either a b => [a, b]
  | .again a => [a]
  | _ => []
def namesR : Rw → List Str
  | .note x _ ps => x :: ps
  | .copy x y => [x, y]
  | .give x _ => [x]
  | .ask x => [x]
  | .prt x => [x]
  | _ => []
mutual
/-- the next places of a row's rows -/
def leadsR : Rw → Nat → Nat → List (List Nat)
  | .either a b, p, e => [if a.isEmpty then e else p + 1, if b.isEmpty then e else p + 1 + (rowsB a).length] :: (leadsB a (p + 1) e ++ leadsB b (p + 1 + (rowsB a).length) e)
  | .again a, p, e => [if a.isEmpty then p else p + 1, e] :: leadsB a (p + 1) p
  | .note _ _ _, _, e => [[e]]
  | .copy _ _, _, e => [[e]]
  | .give _ _, _, e => [[e]]
  | .ask _, _, e => [[e]]
  | .prt _, _, e => [[e]]
def leadsB : List Rw → Nat → Nat → List (List Nat)
  | [], _, _ => []
  | r :: b, p, e => leadsR r p (if b.isEmpty then e else p + (rowsR r).length) ++ leadsB b (p + (rowsR r).length) e
end
mutual
/-- how deep blocks stand within -/
def depR : Rw → Nat
  | .either a b => max (depB a) (depB b) + 1
  | .again a => depB a + 1
  | .note _ _ _ => 0
  | .copy _ _ => 0
  | .give _ _ => 0
  | .ask _ => 0
  | .prt _ => 0
def depB : List Rw → Nat
  | [] => 0
  | r :: b => max (depR r) (depB b)
end
theorem rowsR_eq (r : Rw) : rowsR r = r :: (inner r).flatMap rowsB := by
  cases r <;> simp [rowsR, inner]
theorem dB_eq : ∀ b : List Rw, dB b = b.map dR
  | [] => rfl
  | r :: b => by rw [dB, dB_eq b]; rfl
theorem rowsB_eq : ∀ b : List Rw, rowsB b = b.flatMap rowsR
  | [] => rfl
  | r :: b => by rw [rowsB, rowsB_eq b]; rfl
theorem rowsR_pos (r : Rw) : 0 < (rowsR r).length := by
  rw [rowsR_eq]
  exact Nat.succ_pos _
mutual
theorem leadsR_len : ∀ (r : Rw) (p e : Nat), (leadsR r p e).length = (rowsR r).length
  | .either a b, p, e => by simp [leadsR, rowsR, leadsB_len a, leadsB_len b]
  | .again a, p, e => by simp [leadsR, rowsR, leadsB_len a]
  | .note _ _ _, _, _ => rfl
  | .copy _ _, _, _ => rfl
  | .give _ _, _, _ => rfl
  | .ask _, _, _ => rfl
  | .prt _, _, _ => rfl
theorem leadsB_len : ∀ (b : List Rw) (p e : Nat), (leadsB b p e).length = (rowsB b).length
  | [], _, _ => rfl
  | r :: b, p, e => by simp [leadsB, rowsB, leadsR_len r, leadsB_len b]
end
/-! ### in the heap -/
mutual
/-- a thing of tuples, texts, numbers, flags -/
inductive Tv (K : PySem.W.Frag) (H : Hp) : V → PyData → Prop
  | non : Tv K H .non .none
  | bl (b : Bool) : Tv K H (.bl b) (.bool b)
  | int (i : Int) : Tv K H (.int i) (.int i)
  | str (x : Str) : Tv K H (.str x) (.str x)
  | tup {a : Addr} {xs : List V} {ds : List PyData} : SqT K H a xs → Tvs K H xs ds → Tv K H (.ref a) (.tuple ds)
inductive Tvs (K : PySem.W.Frag) (H : Hp) : List V → List PyData → Prop
  | nil : Tvs K H [] []
  | cons {v : V} {vs : List V} {d : PyData} {ds : List PyData} : Tv K H v d → Tvs K H vs ds → Tvs K H (v :: vs) (d :: ds)
end
/-- all tuples stand -/
def Pt (H H' : Hp) : Prop := ∀ b xs, Rd H b (.tup xs) → Rd H' b (.tup xs)
theorem Pt.refl (H : Hp) : Pt H H := fun _ _ h => h
theorem Pt.trans {H H1 H2 : Hp} (a : Pt H H1) (b : Pt H1 H2) : Pt H H2 := fun c o h => b c o (a c o h)
theorem _root_.L2.Same.pt {H H' : Hp} (s : Same H H') : Pt H H' := fun b xs h => h.elim (fun h => .inl (s _ _ h)) fun ⟨o, h⟩ => .inr ⟨o, s _ _ h⟩
/-- a list changes -/
theorem Pt.lst {H : Hp} {a : Addr} {xs : List V} {o : HO} (h : H a = some (.lst xs)) : Pt H (upd H a o) := fun b ys hb => by
  have ne : b ≠ a := fun e => by
    subst e
    rcases hb with hb | ⟨o, hb⟩ <;> rw [h] at hb <;> cases hb
  exact hb.elim (fun h => .inl (by rw [upd_ne ne]; exact h)) fun ⟨o, h⟩ => .inr ⟨o, by rw [upd_ne ne]; exact h⟩
theorem Pt.new {H : Hp} {a : Addr} {o : HO} (h : H a = none) : Pt H (upd H a o) := Same.pt fun b u e => by
  rw [upd_ne (ne_of_none e h)]
  exact e
theorem Kp.pt {p : Addr} {H H' : Hp} {xs : List V} (h : H p = some (.lst xs)) (k : Kp p H H') : Pt H H' := fun b ys hb => by
  have ne : b ≠ p := fun e => by
    subst e
    rcases hb with hb | ⟨o, hb⟩ <;> rw [h] at hb <;> cases hb
  exact hb.elim (fun h => .inl (k _ _ ne h)) fun ⟨o, h⟩ => .inr ⟨o, k _ _ ne h⟩
section
variable {K : PySem.W.Frag} {H H' : Hp}
theorem Pt.sq {a : Addr} {xs : List V} (p : Pt H H') (h : SqT K H a xs) : SqT K H' a xs := h.imp (p _ _) id
mutual
theorem Tv.pt (p : Pt H H') : ∀ {v : V} {d : PyData}, Tv K H v d → Tv K H' v d
  | _, _, .non => .non
  | _, _, .bl b => .bl b
  | _, _, .int i => .int i
  | _, _, .str x => .str x
  | _, _, .tup h t => .tup (p.sq h) (Tvs.pt p t)
theorem Tvs.pt (p : Pt H H') : ∀ {vs : List V} {ds : List PyData}, Tvs K H vs ds → Tvs K H' vs ds
  | _, _, .nil => .nil
  | _, _, .cons h t => .cons (Tv.pt p h) (Tvs.pt p t)
end
mutual
theorem Tv.dp : ∀ {v : V} {d : PyData}, Tv K H v d → Dp K H v d
  | _, _, .non => .non
  | _, _, .bl b => .bl b
  | _, _, .int i => .int i
  | _, _, .str x => .str x
  | _, _, .tup h t => .tup h (Tvs.dp t)
theorem Tvs.dp : ∀ {vs : List V} {ds : List PyData}, Tvs K H vs ds → DpAll K H vs ds
  | _, _, .nil => .nil
  | _, _, .cons h t => .cons (Tv.dp h) (Tvs.dp t)
end
theorem Tvs.len : ∀ {vs : List V} {ds : List PyData}, Tvs K H vs ds → vs.length = ds.length
  | _, _, .nil => rfl
  | _, _, .cons _ t => congrArg Nat.succ (Tvs.len t)
theorem Tvs.app : ∀ {vs : List V} {ds : List PyData} {us : List V} {es : List PyData}, Tvs K H vs ds → Tvs K H us es → Tvs K H (vs ++ us) (ds ++ es)
  | _, _, _, _, .nil, t => t
  | _, _, _, _, .cons h t, u => .cons h (Tvs.app t u)
theorem Tvs.get : ∀ {vs : List V} {ds : List PyData} {i : Nat} {d : PyData}, Tvs K H vs ds → ds[i]? = some d → ∃ v, vs[i]? = some v ∧ Tv K H v d
  | _, _, i, _, .nil, e => by simp at e
  | _, _, 0, _, .cons h t, e => by
    cases e
    exact ⟨_, rfl, h⟩
  | _, _, i + 1, _, .cons h t, e => Tvs.get (i := i) t e
theorem Tvs.strs : ∀ {vs : List V} {ps : List Str}, Tvs K H vs (ps.map .str) → vs = ps.map V.str
  | _, [], .nil => rfl
  | _, _ :: _, .cons h t => by
    cases h
    rw [List.map_cons, Tvs.strs t]
theorem Tvs.ofStrs : ∀ {ps : List Str}, Tvs K H (ps.map V.str) (ps.map .str)
  | [] => .nil
  | _ :: _ => .cons (.str _) Tvs.ofStrs
end
abbrev RV (K : PySem.W.Frag) (H : Hp) (v : V) (r : Rw) : Prop := Tv K H v (dR r)
abbrev BV (K : PySem.W.Frag) (H : Hp) (v : V) (b : List Rw) : Prop := Tv K H v (.tuple (dB b))
abbrev RVs (K : PySem.W.Frag) (H : Hp) (vs : List V) (b : List Rw) : Prop := Tvs K H vs (dB b)
end PM
set_option Elab.async false
set_option linter.all false
set_option maxRecDepth 100000
set_option maxHeartbeats 4000000
/-! List comprehensions over things that stand, by what each item gives. -/
namespace PM
open PySem PySem.Spec PyProof.Rows L2 ZX ZR
theorem ifD {p A B : Prop} [Decidable p] (h : p) (a : A) : if decide p = true then A else B := by
  rw [decide_eq_true h]
  exact a
theorem ifDF {p A B : Prop} [Decidable p] (h : ¬ p) (b : B) : if decide p = true then A else B := by
  rw [decide_eq_false h]
  exact b
theorem ifB {c : Bool} {A B : Prop} (h : c = true) (a : A) : if c = true then A else B := by
  rw [h]
  exact a
theorem ifBF {c : Bool} {A B : Prop} (h : c = false) (b : B) : if c = true then A else B := by
  rw [h]
  exact b
/-- all that was tracked, but what stands at p, stands -/
def Kq (p : Option Addr) (H H' : Hp) : Prop := ∀ b o, some b ≠ p → H b = some o → H' b = some o
section
variable {p : Option Addr} {H H1 H2 : Hp}
theorem Kq.refl : Kq p H H := fun _ _ _ h => h
theorem Kq.trans (a : Kq p H H1) (b : Kq p H1 H2) : Kq p H H2 := fun c o n h => b c o n (a c o n h)
theorem Kq.new {a : Addr} {o : HO} (k : Kq p H H1) (h : H a = none) : Kq p H (upd H1 a o) := fun b u n e => by
  rw [upd_ne (ne_of_none e h)]
  exact k b u n e
theorem _root_.L2.Same.kq (s : Same H H1) : Kq p H H1 := fun b o _ h => s b o h
theorem Kq.same (k : Kq none H H1) : Same H H1 := fun b o h => k b o (fun z => nomatch z) h
theorem Kp.kq {p : Addr} (k : Kp p H H1) : Kq (some p) H H1 := fun b o n h => k b o (fun z => n (by rw [z])) h
theorem Kq.kp {p : Addr} (k : Kq (some p) H H1) : Kp p H H1 := fun b o n h => k b o (fun z => n (by injection z)) h
end
/-- J walks over zs as long as St holds -/
structure IterOf (J : It) (zs : List V) (St : Hp → Prop) : Prop where
  stop : ∀ H, St H → J.stop zs.length H
  go : ∀ i H, St H → i < zs.length → J.go i H
  yld : ∀ i H v H', St H → i < zs.length → J.yld i H v H' → H' = H ∧ zs[i]? = some v
theorem it_list {K : PySem.W.Frag} {a : Addr} {xs : List V} : IterOf (Itl K a) xs fun H => SqL K H a xs :=
  ⟨fun H h => ⟨xs, h, Nat.le_refl _⟩, fun i H h l => ⟨xs, xs[i], h, List.getElem?_eq_getElem l⟩, fun i H v H' h _ y => ⟨y.1, y.2 xs h⟩⟩
theorem it_tup {K : PySem.W.Frag} {a : Addr} {xs : List V} : IterOf (Itt K a) xs fun H => SqT K H a xs :=
  ⟨fun H h => ⟨xs, h, Nat.le_refl _⟩, fun i H h l => ⟨xs, xs[i], h, List.getElem?_eq_getElem l⟩, fun i H v H' h _ y => ⟨y.1, y.2 xs h⟩⟩
/-- the letters of a text -/
def letters (x : Str) : List V := x.cps.toList.map fun c => .str ⟨#[c]⟩
theorem letters_len (x : Str) : (letters x).length = x.cps.size := by rw [letters, List.length_map, Array.length_toList]
theorem it_str {x : Str} : IterOf (Its x) (letters x) fun _ => True :=
  ⟨fun H _ => Nat.le_of_eq (letters_len x).symm, fun i H _ l => by
    show i < x.cps.size
    rw [← letters_len]
    exact l, fun i H v H' _ _ y => by
    obtain ⟨e, c, hc, rfl⟩ := y
    refine ⟨e, ?_⟩
    rw [letters, List.getElem?_map, Array.getElem?_toList, hc]
    rfl⟩
theorem it_range {lo : Int} {n : Nat} : IterOf (Itr lo n) ((List.range n).map fun i => V.int (lo + (i : Nat))) fun _ => True := by
  refine ⟨fun H _ => ?_, fun i H _ l => ?_, fun i H v H' _ l y => ?_⟩
  · show n ≤ _
    simp
  · have l' := l
    rw [List.length_map, List.length_range] at l'
    exact l'
  · obtain ⟨e, rfl⟩ := y
    refine ⟨e, ?_⟩
    rw [List.length_map, List.length_range] at l
    rw [List.getElem?_map, List.getElem?_range l]
    rfl
/-- pairwise -/
inductive All2 {α β : Type} (R : α → β → Prop) : List α → List β → Prop
  | nil : All2 R [] []
  | cons {a : α} {b : β} {as : List α} {bs : List β} : R a b → All2 R as bs → All2 R (a :: as) (b :: bs)
theorem All2.imp {α β : Type} {R S : α → β → Prop} (f : ∀ a b, R a b → S a b) : ∀ {as : List α} {bs : List β}, All2 R as bs → All2 S as bs
  | _, _, .nil => .nil
  | _, _, .cons h t => .cons (f _ _ h) (All2.imp f t)
theorem All2.snoc {α β : Type} {R : α → β → Prop} {a : α} {b : β} (r : R a b) : ∀ {as : List α} {bs : List β}, All2 R as bs → All2 R (as ++ [a]) (bs ++ [b])
  | _, _, .nil => .cons r .nil
  | _, _, .cons h t => .cons h (All2.snoc r t)
theorem All2.len {α β : Type} {R : α → β → Prop} : ∀ {as : List α} {bs : List β}, All2 R as bs → as.length = bs.length
  | _, _, .nil => rfl
  | _, _, .cons _ t => congrArg Nat.succ (All2.len t)
theorem All2.map {α β : Type} {f : α → β} : ∀ {as : List α} {bs : List β}, All2 (fun a b => b = f a) as bs → bs = as.map f
  | _, _, .nil => rfl
  | _, _, .cons h t => by rw [h, All2.map t]; rfl
section
variable {J : It} {zs : List V} {St : Hp → Prop} {g : TG} {te : TE} {vs : List Nat} {σ : L2.St} {H1 : Hp} {Q : VK} {p : Option Addr} {Rel : Hp → V → V → Prop}
theorem lc_into {wi : TI} {tt : TT} {H : Hp} (h : wi σ H fun J H1 => tLcS (fun _ _ R => R J H1) g tt te vs σ H1 Q) : tLcS wi g tt te vs σ H Q := by
  rw [lcS] at *
  exact h
/-- [e for t in i]: no item raises; the one for c gives something that Rel tells of c, and changes nothing that stood but p -/
theorem lc_overA {α : Type} {as : List α} {Rel : Hp → α → V → Prop} (O : IterOf J zs St) (hz : as.length = zs.length) (hRel : ∀ c y H H', Pt H H' → Rel H c y → Rel H' c y) (hp : ∀ a, p = some a → ∃ o, H1 a = some o) (hlen : zs.length < sizeLine)
    (st : ∀ H', Kq p H1 H' → Pt H1 H' → St H')
    (step : ∀ (i : Nat) x c, zs[i]? = some x → as[i]? = some c → ∀ H', Kq p H1 H' → Pt H1 H' → ∀ R : VK, (∀ y H'', Kq p H' H'' → Pt H' H'' → Rel H'' c y → R y H'') → g x (wipe σ vs) H' fun σ2 H2 => wipe σ2 vs = wipe σ vs ∧ te σ2 H2 R)
    (fin : ∀ D ys H', Kq p H1 H' → Pt H1 H' → H1 D = none → H' D = some (.lst ys) → All2 (Rel H') as ys → Q (.ref D) H') :
    tLcS (fun _ _ R => R J H1) g tYes te vs σ H1 Q := by
  rw [lcS]
  intro D hD
  refine ⟨fun i m H => m = zs.length - i ∧ i ≤ zs.length ∧ Kq p H1 H ∧ Pt H1 H ∧ ∃ ys, H D = some (.lst ys) ∧ All2 (Rel H) (as.take i) ys, ⟨zs.length, rfl, Nat.zero_le _, Kq.refl.new hD, Pt.new hD, [], upd_same, by rw [List.take_zero]; exact .nil⟩, ?_⟩
  rintro i m H ⟨rfl, hi, kq, pt, ys, hys, all⟩
  have hst := st H kq pt
  by_cases hlt : i < zs.length
  · refine .inr ⟨O.go i H hst hlt, fun H' => i + 1 ≤ zs.length ∧ Kq p H1 H' ∧ Pt H1 H' ∧ ∃ ys, H' D = some (.lst ys) ∧ All2 (Rel H') (as.take (i + 1)) ys, fun H' h => ⟨zs.length - (i + 1), by omega, rfl, h⟩, fun x H' y => ?_⟩
    obtain ⟨rfl, hx⟩ := O.yld i H x H' hst hlt y
    have hia : i < as.length := by omega
    have hc : as[i]? = some as[i] := List.getElem?_eq_getElem hia
    have hDp : some D ≠ p := fun e => by
      obtain ⟨o, ho⟩ := hp D e.symm
      rw [hD] at ho
      cases ho
    show g x (wipe σ vs) H' fun σ2 H2 => wipe σ2 vs = wipe σ vs ∧ tYes σ2 H2 fun b H3 => if b = true then te σ2 H3 _ else _
    refine step i x as[i] hx hc H' kq pt _ fun y H'' k2 p2 r => ?_
    have hD2 := k2 D _ hDp hys
    have pD : Pt H'' (upd H'' D (.lst (ys ++ [y]))) := Pt.lst hD2
    have ptk : as.take (i + 1) = as.take i ++ [as[i]] := by
      rw [List.take_succ, hc]
      rfl
    have hl2 : ys.length < sizeLine := by
      rw [← all.len, List.length_take]
      omega
    refine ⟨ys, hD2, hl2, hlt, (kq.trans k2).new hD, (pt.trans p2).trans pD, ys ++ [y], upd_same, ?_⟩
    rw [ptk]
    exact All2.snoc (hRel _ _ _ _ pD r) (all.imp fun a b q => hRel _ _ _ _ (p2.trans pD) q)
  · have e : i = zs.length := by omega
    subst e
    rw [← hz, List.take_length] at all
    exact .inl ⟨O.stop H hst, fin D ys H kq pt hD hys all⟩
theorem lc_over (O : IterOf J zs St) (hRel : ∀ x y H H', Pt H H' → Rel H x y → Rel H' x y) (hp : ∀ a, p = some a → ∃ o, H1 a = some o) (hlen : zs.length < sizeLine)
    (st : ∀ H', Kq p H1 H' → Pt H1 H' → St H')
    (step : ∀ x ∈ zs, ∀ H', Kq p H1 H' → Pt H1 H' → ∀ R : VK, (∀ y H'', Kq p H' H'' → Pt H' H'' → Rel H'' x y → R y H'') → g x (wipe σ vs) H' fun σ2 H2 => wipe σ2 vs = wipe σ vs ∧ te σ2 H2 R)
    (fin : ∀ D ys H', Kq p H1 H' → Pt H1 H' → H1 D = none → H' D = some (.lst ys) → All2 (Rel H') zs ys → Q (.ref D) H') :
    tLcS (fun _ _ R => R J H1) g tYes te vs σ H1 Q :=
  lc_overA (as := zs) O rfl hRel hp hlen st (fun i x c hx hc => by
    rw [hx] at hc
    cases hc
    exact step x (List.mem_of_getElem? hx)) fin
end
end PM
namespace PM
open PySem PySem.Spec PyProof.Rows L2 ZX
section
variable {K : PySem.W.Frag} {H H' : Hp}
theorem Tv.tupI {v : V} {ds : List PyData} (h : Tv K H v (.tuple ds)) : ∃ a xs, v = .ref a ∧ SqT K H a xs ∧ Tvs K H xs ds := by
  cases h with
  | tup h t => exact ⟨_, _, rfl, h, t⟩
theorem Tv.strI {v : V} {x : Str} (h : Tv K H v (.str x)) : v = .str x := by
  cases h
  rfl
theorem Tv.intI {v : V} {i : Int} (h : Tv K H v (.int i)) : v = .int i := by
  cases h
  rfl
theorem tyT {a : Addr} {xs : List V} (h : SqT K H a xs) : TyX K H (.ref a) (.type "tuple") := by
  rcases h with (h | ⟨o, h⟩) | ⟨o, its, n, h, c, _⟩
  · exact .base (.tup h)
  · exact .fTuple h
  · exact .kTuple h c
theorem Tvs.all {R : V → PyData → Prop} (f : ∀ v d, Tv K H v d → R v d) : ∀ {vs : List V} {ds : List PyData}, Tvs K H vs ds → All2 R vs ds
  | _, _, .nil => .nil
  | _, _, .cons h t => .cons (f _ _ h) (Tvs.all f t)
theorem Tvs.snocI : ∀ {ds : List PyData} {vs : List V} {d : PyData}, Tvs K H vs (ds ++ [d]) → ∃ us u, vs = us ++ [u] ∧ Tvs K H us ds ∧ Tv K H u d
  | [], _, _, .cons h .nil => ⟨[], _, rfl, .nil, h⟩
  | _ :: _, _, _, .cons h t => by
    obtain ⟨us, u, rfl, h1, h2⟩ := Tvs.snocI t
    exact ⟨_ :: us, u, rfl, .cons h h1, h2⟩
theorem Tvs.rev : ∀ {vs : List V} {ds : List PyData}, Tvs K H vs ds → Tvs K H vs.reverse ds.reverse
  | _, _, .nil => .nil
  | _, _, .cons h t => by
    rw [List.reverse_cons, List.reverse_cons]
    exact Tvs.app (Tvs.rev t) (.cons h .nil)
theorem Tvs.ofAll2 {α : Type} {f : α → PyData} : ∀ {as : List α} {vs : List V}, All2 (fun a v => Tv K H v (f a)) as vs → Tvs K H vs (as.map f)
  | _, _, .nil => .nil
  | _, _, .cons h t => .cons h (Tvs.ofAll2 t)
theorem Tvs.ofAll : ∀ {vs : List V} {ds : List PyData}, All2 (fun v d => Tv K H v d) vs ds → Tvs K H vs ds
  | _, _, .nil => .nil
  | _, _, .cons h t => .cons h (Tvs.ofAll t)
end
/-! ### programs' form -/
def NameOk (x : Str) : Prop := 1 ≤ x.length ∧ x.length ≤ 8 ∧ ∀ c ∈ x.cps.toList, 97 ≤ c ∧ c ≤ 122
mutual
/-- a row that may stand in a block so deep -/
def okR : Nat → Rw → Prop
  | _, .note x o ps => NameOk x ∧ NameOk o ∧ ps.length ≤ 3 ∧ ∀ y ∈ ps, NameOk y
  | _, .copy x y => NameOk x ∧ NameOk y
  | _, .give x _ => NameOk x
  | _, .ask x => NameOk x
  | _, .prt x => NameOk x
  | d, .either a b => d < 4 ∧ a.length ≤ 12 ∧ b.length ≤ 12 ∧ okB (d + 1) a ∧ okB (d + 1) b
  | d, .again a => d < 4 ∧ a.length ≤ 12 ∧ okB (d + 1) a
def okB : Nat → List Rw → Prop
  | _, [] => True
  | d, r :: b => okR d r ∧ okB d b
end
end PM
namespace PM
open PySem PySem.Spec PyProof.Rows L2 ZX
theorem neS {a b : String} (h : decide (Str.ofString a = Str.ofString b) = false) : ¬ V.str (Str.ofString a) = V.str (Str.ofString b) := fun e => by
  injection e with e
  rw [e] at h
  simp at h
theorem same_new {H : Hp} {a : Addr} {o : HO} (n : H a = none) : Same H (upd H a o) := fun b u e => by
  rw [upd_ne (ne_of_none e n)]
  exact e
theorem at0 {x : V} {tl : List V} : atI (x :: tl) 0 = some x := at_of (j := 0) rfl rfl
/-- xs[1:] of a tuple that begins so -/
theorem cut1 {x : V} {tl : List V} : cutV (x :: tl) (some 1) none = tl := by
  have h1 : HT.sIx (x :: tl).length 0 (some 1) = 1 := by
    rw [show (some (1 : Int)) = some ((1 : Nat) : Int) from rfl, HT.sIx_nat]
    show min 1 (tl.length + 1) = 1
    omega
  have h2 : HT.sIx (x :: tl).length (x :: tl).length none = tl.length + 1 := rfl
  unfold cutV
  rw [h1, h2, List.drop_succ_cons, List.drop_zero]
  exact List.take_of_length_le (by omega)
theorem cut1_ne {x : V} {tl : List V} : ¬ (HT.sIx (x :: tl).length 0 (some 1) = 0 ∧ HT.sIx (x :: tl).length (x :: tl).length none = (x :: tl).length) := by
  rintro ⟨h, _⟩
  have h1 : HT.sIx (x :: tl).length 0 (some 1) = 1 := by
    rw [show (some (1 : Int)) = some ((1 : Nat) : Int) from rfl, HT.sIx_nat]
    show min 1 (tl.length + 1) = 1
    omega
  rw [h1] at h
  cases h
def wordR : Rw → Str
  | .note _ _ _ => "note"
  | .copy _ _ => "copy"
  | .give _ _ => "give"
  | .ask _ => "ask"
  | .prt _ => "print"
  | .either _ _ => "either"
  | .again _ => "again"
def argsR : Rw → List PyData
  | .note x o ps => [.str x, .str o, .tuple (ps.map .str)]
  | .copy x y => [.str x, .str y]
  | .give x i => [.str x, .int i]
  | .ask x => [.str x]
  | .prt x => [.str x]
  | .either a b => [.tuple (dB a), .tuple (dB b)]
  | .again a => [.tuple (dB a)]
theorem dR_eq (r : Rw) : dR r = .tuple (.str (wordR r) :: argsR r) := by
  cases r <;> rfl
theorem argsR_len (r : Rw) : 1 ≤ (argsR r).length ∧ (argsR r).length ≤ 3 := by
  cases r <;> exact ⟨by simp [argsR], by simp [argsR]⟩
section
variable {K : PySem.W.Frag} {H : Hp} {v : V}
theorem Tv.rowI {r : Rw} (h : Tv K H v (dR r)) : ∃ a tl, v = .ref a ∧ SqT K H a (.str (wordR r) :: tl) ∧ Tvs K H tl (argsR r) := by
  rw [dR_eq] at h
  obtain ⟨a, xs, rfl, hS, ht⟩ := h.tupI
  cases ht with
  | cons h1 t => cases h1 with
    | str _ => exact ⟨_, _, rfl, hS, t⟩
theorem Tvs.one {vs : List V} {d : PyData} (h : Tvs K H vs [d]) : ∃ v, vs = [v] ∧ Tv K H v d := by
  cases h with
  | cons h1 t => cases t with
    | nil => exact ⟨_, rfl, h1⟩
theorem Tvs.two {vs : List V} {d e : PyData} (h : Tvs K H vs [d, e]) : ∃ v u, vs = [v, u] ∧ Tv K H v d ∧ Tv K H u e := by
  cases h with
  | cons h1 t =>
    obtain ⟨u, rfl, h2⟩ := t.one
    exact ⟨_, _, rfl, h1, h2⟩
theorem Tvs.three {vs : List V} {d e f : PyData} (h : Tvs K H vs [d, e, f]) : ∃ v u t, vs = [v, u, t] ∧ Tv K H v d ∧ Tv K H u e ∧ Tv K H t f := by
  cases h with
  | cons h1 t =>
    obtain ⟨u, z, rfl, h2, h3⟩ := t.two
    exact ⟨_, _, _, rfl, h1, h2, h3⟩
end
end PM
set_option Elab.async false
set_option linter.all false
set_option maxRecDepth 100000
set_option maxHeartbeats 4000000
/-! List comprehensions with a word that holds between the turns. -/
namespace PM
open PySem PySem.Spec PyProof.Rows L2 ZX ZR
section
variable {J : It} {zs : List V} {St : Hp → Prop} {g : TG} {te : TE} {vs : List Nat} {σ : L2.St} {H1 : Hp} {Q : VK} {p : Option Addr}
theorem lc_overI {α : Type} {as : List α} {Rel : Hp → α → V → Prop} (Iv : Hp → Prop) (O : IterOf J zs St) (hz : as.length = zs.length) (hRel : ∀ c y H H', Pt H H' → Rel H c y → Rel H' c y) (hp : ∀ a, p = some a → ∃ o, H1 a = some o) (hlen : zs.length < sizeLine)
    (h0 : ∀ D, H1 D = none → Iv (upd H1 D (.lst []))) (hup : ∀ D H' o, H1 D = none → Iv H' → Iv (upd H' D o))
    (st : ∀ H', Kq p H1 H' → Pt H1 H' → Iv H' → St H')
    (step : ∀ (i : Nat) x c, zs[i]? = some x → as[i]? = some c → ∀ H', Kq p H1 H' → Pt H1 H' → Iv H' → ∀ R : VK, (∀ y H'', Kq p H' H'' → Pt H' H'' → Iv H'' → Rel H'' c y → R y H'') → g x (wipe σ vs) H' fun σ2 H2 => wipe σ2 vs = wipe σ vs ∧ te σ2 H2 R)
    (fin : ∀ D ys H', Kq p H1 H' → Pt H1 H' → Iv H' → H1 D = none → H' D = some (.lst ys) → All2 (Rel H') as ys → Q (.ref D) H') :
    tLcS (fun _ _ R => R J H1) g tYes te vs σ H1 Q := by
  rw [lcS]
  intro D hD
  refine ⟨fun i m H => m = zs.length - i ∧ i ≤ zs.length ∧ Kq p H1 H ∧ Pt H1 H ∧ Iv H ∧ ∃ ys, H D = some (.lst ys) ∧ All2 (Rel H) (as.take i) ys, ⟨zs.length, rfl, Nat.zero_le _, Kq.refl.new hD, Pt.new hD, h0 D hD, [], upd_same, by rw [List.take_zero]; exact .nil⟩, ?_⟩
  rintro i m H ⟨rfl, hi, kq, pt, iv, ys, hys, all⟩
  have hst := st H kq pt iv
  by_cases hlt : i < zs.length
  · refine .inr ⟨O.go i H hst hlt, fun H' => i + 1 ≤ zs.length ∧ Kq p H1 H' ∧ Pt H1 H' ∧ Iv H' ∧ ∃ ys, H' D = some (.lst ys) ∧ All2 (Rel H') (as.take (i + 1)) ys, fun H' h => ⟨zs.length - (i + 1), by omega, rfl, h⟩, fun x H' y => ?_⟩
    obtain ⟨rfl, hx⟩ := O.yld i H x H' hst hlt y
    have hia : i < as.length := by omega
    have hc : as[i]? = some as[i] := List.getElem?_eq_getElem hia
    have hDp : some D ≠ p := fun e => by
      obtain ⟨o, ho⟩ := hp D e.symm
      rw [hD] at ho
      cases ho
    show g x (wipe σ vs) H' fun σ2 H2 => wipe σ2 vs = wipe σ vs ∧ tYes σ2 H2 fun b H3 => if b = true then te σ2 H3 _ else _
    refine step i x as[i] hx hc H' kq pt iv _ fun y H'' k2 p2 iv2 r => ?_
    have hD2 := k2 D _ hDp hys
    have pD : Pt H'' (upd H'' D (.lst (ys ++ [y]))) := Pt.lst hD2
    have ptk : as.take (i + 1) = as.take i ++ [as[i]] := by
      rw [List.take_succ, hc]
      rfl
    have hl2 : ys.length < sizeLine := by
      rw [← all.len, List.length_take]
      omega
    refine ⟨ys, hD2, hl2, hlt, (kq.trans k2).new hD, (pt.trans p2).trans pD, hup D _ _ hD iv2, ys ++ [y], upd_same, ?_⟩
    rw [ptk]
    exact All2.snoc (hRel _ _ _ _ pD r) (all.imp fun a b q => hRel _ _ _ _ (p2.trans pD) q)
  · have e : i = zs.length := by omega
    subst e
    rw [← hz, List.take_length] at all
    exact .inl ⟨O.stop H hst, fin D ys H kq pt iv hD hys all⟩
end
end PM
set_option Elab.async false
set_option linter.all false
set_option maxRecDepth 100000
set_option maxHeartbeats 4000000
namespace K05
open PySem PySem.Spec PyProof.Rows L2 ZX PM ZR
def top (i : Nat) : Stmt := PySem.Challenge.pw_putoffpiles_k05_whole_first_wrong_lines.main.body.getD i (.Pass ⟨0, 0, 0, 0⟩)
/-- a def with one default behind its other parameters -/
abbrev FnPD (K : PySem.W.Frag) (x : Str) (st : Stmt) (dvs : List V) (f : Addr) (fd : FuncData) : Prop := FunD K x x (defArgs st) (defBody st) (defScope st) dvs [] f fd
abbrev FnP (K : PySem.W.Frag) (x : Str) (st : Stmt) (f : Addr) (fd : FuncData) : Prop := FunD K x x (defArgs st) (defBody st) (defScope st) [] [] f fd
/-- the built-ins' names, the numbers -/
structure Bi (mg : Str → Option Value) : Prop where
  b_abs : mg "abs" = none
  b_all : mg "all" = none
  b_bool : mg "bool" = none
  b_enumerate : mg "enumerate" = none
  b_int : mg "int" = none
  b_isinstance : mg "isinstance" = none
  b_len : mg "len" = none
  b_list : mg "list" = none
  b_range : mg "range" = none
  b_set : mg "set" = none
  b_sorted : mg "sorted" = none
  b_str : mg "str" = none
  b_sum : mg "sum" = none
  b_tuple : mg "tuple" = none
  b_zip : mg "zip" = none
  m_MOST_ROWS_IN_BLOCK : ∃ t, mg "MOST_ROWS_IN_BLOCK" = some (.int 12 t)
  m_MOST_ROWS : ∃ t, mg "MOST_ROWS" = some (.int 30 t)
  m_MOST_DEEP : ∃ t, mg "MOST_DEEP" = some (.int 4 t)
  m_MOST_NAMES : ∃ t, mg "MOST_NAMES" = some (.int 8 t)
  m_MOST_PARTS : ∃ t, mg "MOST_PARTS" = some (.int 3 t)
  m_MOST_LETTERS : ∃ t, mg "MOST_LETTERS" = some (.int 8 t)
/-- the words that ask, a tuple of the top -/
def Asking (K : PySem.W.Frag) (mg : Str → Option Value) : Prop := ∃ a, mg "ASKING" = some (.ref a) ∧ ∀ H, SqT K H a [V.str "ask", V.str "print"]
abbrev sIs_integer : Stmt := top 12
abbrev sIs_number_below : Stmt := top 13
abbrev sIs_name : Stmt := top 14
abbrev sIs_parts : Stmt := top 15
abbrev sIs_block : Stmt := top 16
abbrev sIs_row : Stmt := top 17
abbrev sBlocks_of : Stmt := top 18
abbrev sNames_of : Stmt := top 19
abbrev sFormless_place : Stmt := top 20
abbrev sRows_of : Stmt := top 21
abbrev sAll_names : Stmt := top 22
abbrev sBad_place : Stmt := top 23
abbrev sBlock_leads : Stmt := top 24
abbrev sRow_leads : Stmt := top 25
abbrev sProgramInit : Stmt := inClass (top 26) 0
abbrev sProgramEq : Stmt := inClass (top 26) 1
/-! ### promises -/
inductive NumV (K : PySem.W.Frag) (H : Hp) : V → Bool → Prop
  | int (i : Int) : NumV K H (.int i) true
  | bl (b : Bool) : NumV K H (.bl b) false
  | oth {v : V} {t : Value} (h : TyX K H v t) (e : PySem.W.kitOne K t (.type "int") = some false) : NumV K H v false
def spIsInt (K : PySem.W.Frag) : Sp := fun vs H Q _ => ∃ v b, vs = [v] ∧ NumV K H v b ∧ Q (.bl b) H
def spBelow (K : PySem.W.Frag) : Sp := fun vs H Q _ => ∃ m v, vs = [.int m, v] ∧ ((∃ i, v = .int i ∧ Q (.bl (decide (0 ≤ i) && decide (i < m))) H) ∨ (NumV K H v false ∧ Q (.bl false) H))
def spIsName : Sp := fun vs H Q _ => ∃ x, vs = [.str x] ∧ NameOk x ∧ ∀ H', Same H H' → Q (.bl true) H'
def spIsParts (K : PySem.W.Frag) : Sp := fun vs H Q _ => ∃ (v : V) (ps : List Str), vs = [v] ∧ Tv K H v (.tuple (ps.map .str)) ∧ ps.length ≤ 3 ∧ (∀ y ∈ ps, NameOk y) ∧ ∀ H', Same H H' → Q (.bl true) H'
def spIsBlock (K : PySem.W.Frag) : Sp := fun vs H Q _ => ∃ (d : Int) (v : V) (ds : List PyData), vs = [.int d, v] ∧ Tv K H v (.tuple ds) ∧ ds.length ≤ 12 ∧ d ≤ 4 ∧ Q (.bl true) H
section
variable {P : Program} {w : World} {K : PySem.W.Frag} {mg : Str → Option Value} {base : Heap}
theorem scIs_integer : FnScope ["thing"] ["thing"] (defScope sIs_integer) := ⟨rfl, rfl, rfl, by decide +kernel, rfl, by decide +kernel, by decide +kernel⟩
theorem ok_is_integer {f : Addr} {fd : FuncData} (F : FnP K "is_integer" sIs_integer f fd) (T : Bi mg) : FnOk P w K mg base CX0 1 f fd ["thing"] (spIsInt K) := by
  refine F.ok scIs_integer (fun vs H Q E h => ?_) (fun cdv A outer s H vs Q E hr h => ?_)
  · obtain ⟨v, b, rfl, _⟩ := h
    rfl
  · obtain ⟨v, b, rfl, hn, k⟩ := h
    refine ⟨_, PSs.nox (pss_one (ps_ret (pe_and (pe_callB call_isi (by rfl) T.b_isinstance (by decide +kernel) (pa_cons (pv 0) (pa_cons (pe_bltn (v := .ty "int") (by rfl) T.b_int (by decide +kernel) rfl) pa_nil))) (pe_one (pe_not (pe_callB call_isi (by rfl) T.b_isinstance (by decide +kernel) (pa_cons (pv 0) (pa_cons (pe_bltn (v := .ty "bool") (by rfl) T.b_bool (by decide +kernel) rfl) pa_nil)))))))), ?_⟩
    cases hn with
    | int i => exact ⟨_, rfl, _, _, _, _, true, rfl, .ty "int", .base (.int i), rfl, _, rfl, _, rfl, _, _, _, _, false, rfl, .ty "bool", .base (.int i), rfl, _, rfl, k⟩
    | bl c => exact ⟨_, rfl, _, _, _, _, true, rfl, .ty "int", .base (.bl c), rfl, _, rfl, _, rfl, _, _, _, _, true, rfl, .ty "bool", .base (.bl c), rfl, _, rfl, k⟩
    | oth ht e => exact ⟨_, rfl, _, _, _, _, false, rfl, .ty "int", ht, e, _, rfl, k⟩
theorem scIs_number_below : FnScope ["limit", "thing"] ["limit", "thing"] (defScope sIs_number_below) := ⟨rfl, rfl, rfl, by decide +kernel, rfl, by decide +kernel, by decide +kernel⟩
theorem ok_below {f : Addr} {fd : FuncData} (F : FnP K "is_number_below" sIs_number_below f fd) (T : Bi mg) (C1 : Cal P w K mg base "is_integer" 1 ["thing"] (spIsInt K)) : FnOk P w K mg base CX0 2 f fd ["limit", "thing"] (spBelow K) := by
  refine F.ok scIs_number_below (fun vs H Q E h => ?_) (fun cdv A outer s H vs Q E hr h => ?_)
  · obtain ⟨m, v, rfl, _⟩ := h
    rfl
  · obtain ⟨m, v, rfl, h⟩ := h
    refine ⟨_, PSs.nox (pss_one (ps_ret (pe_and (pcal C1 hr rfl (pa_cons (pv 1) pa_nil)) (pe_one (pe_chain op_le op_lt pe_int (pv 1) (pv 0)))))), ?_⟩
    rcases h with ⟨i, rfl, k⟩ | ⟨hn, k⟩
    · refine ⟨_, rfl, _, true, rfl, .int i, true, rfl, _, rfl, _, _, rfl, rfl, _, rfl, ?_⟩
      refine ite2 (fun e => ?_) (fun e => ?_)
      · rw [e] at k
        exact ⟨_, rfl, _, _, rfl, rfl, k⟩
      · rw [Bool.eq_false_iff.mpr e] at k
        exact k
    · exact ⟨_, rfl, _, false, rfl, hn, false, rfl, k⟩
theorem le_a {c : Nat} (h : 97 ≤ c) : ¬ (⟨#[c]⟩ : Str).cps.toList < (Str.ofString "a").cps.toList := by
  intro z
  have z' : [c] < [97] := z
  cases z' with
  | rel h2 => exact absurd h (by have : c < 97 := h2; omega)
  | cons h2 => cases h2
theorem le_z {c : Nat} (h : c ≤ 122) : ¬ (Str.ofString "z").cps.toList < (⟨#[c]⟩ : Str).cps.toList := by
  intro z
  have z' : [122] < [c] := z
  cases z' with
  | rel h2 => exact absurd h (by have : 122 < c := h2; omega)
  | cons h2 => cases h2
theorem scIs_name : FnScope ["thing", "sign"] ["thing"] (defScope sIs_name) := ⟨rfl, rfl, rfl, by decide +kernel, rfl, by decide +kernel, by decide +kernel⟩
theorem ok_is_name {f : Addr} {fd : FuncData} (F : FnP K "is_name" sIs_name f fd) (T : Bi mg) : FnOk P w K mg base CX0 1 f fd ["thing"] spIsName := by
  refine F.ok scIs_name (fun vs H Q E h => ?_) (fun cdv A outer s H vs Q E hr h => ?_)
  · obtain ⟨x, rfl, _⟩ := h
    rfl
  · obtain ⟨x, rfl, ⟨n1, n8, nc⟩, k⟩ := h
    obtain ⟨t8, m8⟩ := T.m_MOST_LETTERS
    refine ⟨_, PSs.nox (pss_cons (ps_if (PW.pt (pw_or (pt_not (pt_val (pe_callB call_isi (by rfl) T.b_isinstance (by decide +kernel) (pa_cons (pv 0) (pa_cons (pe_bltn (v := .ty "str") (by rfl) T.b_str (by decide +kernel) rfl) pa_nil))))) (pw_or1 (pt_not (pt_chain op_le op_le pe_int (pe_callB call_len_str (by rfl) T.b_len (by decide +kernel) (pa_cons (pv 0) pa_nil)) (pe_glob (v := .int 8) rfl m8 ⟨_, rfl⟩)))))) (pss_one (ps_ret pe_bl)) pss_nil)
    (pss_one (ps_ret (pe_callB (cr_all rfl) (by rfl) T.b_all (by decide +kernel) (pa_cons (pe_lcS (own := [("sign", 1)]) (g := gName 1) (tt := tYes) (by rfl) scIs_name.nd (pi_str (pv 0)) (blkOk_by (N := ["thing", "sign"]) (sc := defScope sIs_name) (by decide +kernel)) (fun _ _ _ _ _ => (pg_name (i := 1) scIs_name.nd rfl (Or.inl rfl))) (fun _ _ _ _ _ => pts_nil) (fun _ _ _ _ _ => (pe_chain op_le_str op_le_str pe_str (pv 1) pe_str))) pa_nil))))), ?_⟩
    have hz : x.length ≤ sizeLine := Nat.le_trans n8 (by decide)
    refine ⟨_, rfl, _, _, _, _, true, rfl, .ty "str", .base (.str x), rfl, true, rfl, _, rfl, _, rfl, hz, _, _, rfl, rfl, _, rfl, ifD (by omega) ⟨_, _, rfl, rfl, _, rfl, ?_⟩⟩
    rw [decide_eq_true (show (x.length : Int) ≤ 8 by omega)]
    refine lc_into ?_
    refine ⟨_, rfl, _, rfl, ?_⟩
    refine lc_over (p := none) (Rel := fun _ _ y => y = .bl true) it_str (fun _ _ _ _ _ h => h) (fun _ h => nomatch h) ?_ (fun _ _ _ => trivial) ?_ ?_
    · rw [letters_len]
      exact Nat.lt_of_le_of_lt n8 (by decide)
    · intro z hz H' _ _ R k
      obtain ⟨c, hc, rfl⟩ := List.mem_map.mp hz
      obtain ⟨c1, c2⟩ := nc c hc
      have ha : ¬ (⟨#[c]⟩ : Str).cps.toList < (Str.ofString "a").cps.toList := le_a c1
      have hb : ¬ (Str.ofString "z").cps.toList < (⟨#[c]⟩ : Str).cps.toList := le_z c2
      have e1 : (!decide ((⟨#[c]⟩ : Str).cps.toList < (Str.ofString "a").cps.toList)) = true := by rw [decide_eq_false ha]; rfl
      have e2 : (!decide ((Str.ofString "z").cps.toList < (⟨#[c]⟩ : Str).cps.toList)) = true := by rw [decide_eq_false hb]; rfl
      refine ⟨rfl, _, rfl, _, _, rfl, rfl, _, rfl, ifB e1 ⟨_, _, rfl, rfl, ?_⟩⟩
      rw [e2]
      exact k _ _ Kq.refl (Pt.refl _) rfl
    · intro D ys H' kq _ _ hD all
      have e := All2.map all
      subst e
      refine ⟨D, (letters x).map fun _ => true, rfl, SqL.of (by rw [hD, List.map_map]; rfl), ?_⟩
      have ha : ((letters x).map fun _ => true).all id = true := by simp
      rw [ha]
      exact k _ kq.same
end
end K05
set_option Elab.async false
set_option linter.all false
set_option maxRecDepth 100000
set_option maxHeartbeats 4000000
namespace K05
open PySem PySem.Spec PyProof.Rows L2 ZX PM ZR
def spIsRow (K : PySem.W.Frag) : Sp := fun vs H Q _ => ∃ (d : Nat) (v : V) (r : Rw) (m : Int), vs = [.int d, v, .int m] ∧ RV K H v r ∧ okR d r ∧ ∀ H', Same H H' → Q (.bl true) H'
def spBlocksOf (K : PySem.W.Frag) : Sp := fun vs H Q _ => ∃ (v : V) (r : Rw), vs = [v] ∧ RV K H v r ∧ ∀ a ys H', Same H H' → SqT K H' a ys → Tvs K H' ys ((inner r).map fun b => .tuple (dB b)) → Q (.ref a) H'
section
variable {P : Program} {w : World} {K : PySem.W.Frag} {mg : Str → Option Value} {base : Heap}
theorem scIs_parts : FnScope ["thing", "part"] ["thing"] (defScope sIs_parts) := ⟨rfl, rfl, rfl, by decide +kernel, rfl, by decide +kernel, by decide +kernel⟩
theorem ok_is_parts {f : Addr} {fd : FuncData} (F : FnP K "is_parts" sIs_parts f fd) (T : Bi mg) (C1 : Cal P w K mg base "is_name" 1 ["thing"] spIsName) : FnOk P w K mg base CX0 2 f fd ["thing"] (spIsParts K) := by
  refine F.ok scIs_parts (fun vs H Q E h => ?_) (fun cdv A outer s H vs Q E hr h => ?_)
  · obtain ⟨v, ps, rfl, _⟩ := h
    rfl
  · obtain ⟨v, ps, rfl, tv, hl, hn, k⟩ := h
    obtain ⟨a, xs, rfl, hS, ht⟩ := tv.tupI
    have hx := Tvs.strs ht
    subst hx
    obtain ⟨t3, m3⟩ := T.m_MOST_PARTS
    refine ⟨_, PSs.nox (pss_one (ps_ret (pe_and (pe_callB call_isi (by rfl) T.b_isinstance (by decide +kernel) (pa_cons (pv 0) (pa_cons (pe_bltn (v := .ty "tuple") (by rfl) T.b_tuple (by decide +kernel) rfl) pa_nil))) (pe_and (pe_cmpR op_le (pe_callB call_len_seq (by rfl) T.b_len (by decide +kernel) (pa_cons (pv 0) pa_nil)) (pe_glob (v := .int 3) rfl m3 ⟨_, rfl⟩) (nomark _)) (pe_one (pe_callB (cr_all rfl) (by rfl) T.b_all (by decide +kernel) (pa_cons (pe_lcS (own := [("part", 1)]) (g := gName 1) (tt := tYes) (by rfl) scIs_parts.nd (pi_tup (pv 0)) (blkOk_by (N := ["thing", "part"]) (sc := defScope sIs_parts) (by decide +kernel)) (fun _ _ _ _ _ => (pg_name (i := 1) scIs_parts.nd rfl (Or.inl rfl))) (fun _ _ _ _ _ => pts_nil) (fun _ _ _ _ _ => (pcal C1 hr rfl (pa_cons (pv 1) pa_nil)))) pa_nil))))))), ?_⟩
    refine ⟨_, rfl, _, _, _, _, true, rfl, .ty "tuple", tyT hS, rfl, _, rfl, _, rfl, a, _, rfl, .inr hS, _, _, rfl, rfl, _, rfl, ?_⟩
    refine ifD (by rw [List.length_map]; omega) ?_
    refine lc_into ?_
    refine ⟨_, rfl, _, rfl, ⟨_, hS⟩, ?_⟩
    refine lc_over (p := none) (Rel := fun _ _ y => y = .bl true) it_tup (fun _ _ _ _ _ h => h) (fun _ h => nomatch h) ?_ (fun H' _ pt => pt.sq hS) ?_ ?_
    · rw [List.length_map]
      exact Nat.lt_of_le_of_lt hl (by decide)
    · intro z hz H' _ _ R k
      obtain ⟨y, hy, rfl⟩ := List.mem_map.mp hz
      exact ⟨rfl, _, rfl, y, rfl, hn y hy, fun H'' sm => k _ _ (Same.kq sm) (Same.pt sm) rfl⟩
    · intro D ys H' kq _ _ hD all
      have e := All2.map all
      subst e
      refine ⟨D, ps.map fun _ => true, rfl, SqL.of (by rw [hD, List.map_map, List.map_map]; rfl), ?_⟩
      have ha : (ps.map fun _ => true).all id = true := by simp
      rw [ha]
      exact k _ kq.same
theorem scIs_block : FnScope ["deep", "thing"] ["deep", "thing"] (defScope sIs_block) := ⟨rfl, rfl, rfl, by decide +kernel, rfl, by decide +kernel, by decide +kernel⟩
theorem ok_is_block {f : Addr} {fd : FuncData} (F : FnP K "is_block" sIs_block f fd) (T : Bi mg) : FnOk P w K mg base CX0 1 f fd ["deep", "thing"] (spIsBlock K) := by
  refine F.ok scIs_block (fun vs H Q E h => ?_) (fun cdv A outer s H vs Q E hr h => ?_)
  · obtain ⟨d, v, ds, rfl, _⟩ := h
    rfl
  · obtain ⟨d, v, ds, rfl, tv, hl, hd, k⟩ := h
    obtain ⟨a, xs, rfl, hS, ht⟩ := tv.tupI
    obtain ⟨t12, m12⟩ := T.m_MOST_ROWS_IN_BLOCK
    obtain ⟨t4, m4⟩ := T.m_MOST_DEEP
    refine ⟨_, PSs.nox (pss_one (ps_ret (pe_and (pe_callB call_isi (by rfl) T.b_isinstance (by decide +kernel) (pa_cons (pv 1) (pa_cons (pe_bltn (v := .ty "tuple") (by rfl) T.b_tuple (by decide +kernel) rfl) pa_nil))) (pe_and (pe_cmpR op_le (pe_callB call_len_seq (by rfl) T.b_len (by decide +kernel) (pa_cons (pv 1) pa_nil)) (pe_glob (v := .int 12) rfl m12 ⟨_, rfl⟩) (nomark _)) (pe_one (pe_cmpR op_le (pv 0) (pe_glob (v := .int 4) rfl m4 ⟨_, rfl⟩) (nomark _))))))), ?_⟩
    refine ⟨_, rfl, _, _, _, _, true, rfl, .ty "tuple", tyT hS, rfl, _, rfl, _, rfl, a, _, rfl, .inr hS, _, _, rfl, rfl, _, rfl, ?_⟩
    refine ifD (by rw [ht.len]; omega) ⟨_, rfl, _, _, rfl, rfl, ?_⟩
    show Q (.bl (decide (d ≤ 4))) H
    rw [decide_eq_true hd]
    exact k
end
end K05
set_option Elab.async false
set_option linter.all false
set_option maxRecDepth 100000
set_option maxHeartbeats 4000000
namespace K05
open PySem PySem.Spec PyProof.Rows L2 ZX PM ZR
section
variable {P : Program} {w : World} {K : PySem.W.Frag} {mg : Str → Option Value} {base : Heap}
theorem dB_le {b : List Rw} {n : Nat} (h : b.length ≤ n) : (dB b).length ≤ n := by
  rw [dB_eq, List.length_map]
  exact h
theorem scIs_row : FnScope ["deep", "thing", "many", "word", "rest"] ["deep", "thing", "many"] (defScope sIs_row) := ⟨rfl, rfl, rfl, by decide +kernel, rfl, by decide +kernel, by decide +kernel⟩
theorem ok_is_row {f : Addr} {fd : FuncData} (F : FnPD K "is_row" sIs_row [.int 0] f fd) (T : Bi mg) (hA : Asking K mg) (C_is_integer : Cal P w K mg base "is_integer" 1 ["thing"] (spIsInt K)) (C_is_number_below : Cal P w K mg base "is_number_below" 2 ["limit", "thing"] (spBelow K)) (C_is_name : Cal P w K mg base "is_name" 1 ["thing"] spIsName)
    (C_is_parts : Cal P w K mg base "is_parts" 2 ["thing"] (spIsParts K)) (C_is_block : Cal P w K mg base "is_block" 1 ["deep", "thing"] (spIsBlock K)) : FnOk P w K mg base CX0 3 f fd ["deep", "thing", "many"] (spIsRow K) := by
  refine F.ok scIs_row (fun vs H Q E h => ?_) (fun cdv A outer s H vs Q E hr h => ?_)
  · obtain ⟨d, v, r, m, rfl, _⟩ := h
    rfl
  · obtain ⟨d, v, r, m, rfl, tv, ok, k⟩ := h
    have hr_is_integer := hr.mono (show 1 ≤ 2 by decide)
    have hr_is_name := hr_is_integer
    have hr_is_block := hr_is_integer
    have hr_is_parts := hr
    have hr_is_number_below := hr
    obtain ⟨aA, mA, hAs⟩ := hA
    obtain ⟨a, tl, rfl, hS, ht⟩ := tv.rowI
    refine ⟨_, PSs.nox (pss_cons (ps_if (PW.pt (pw_or (pt_not (pt_val (pe_callB call_isi (by rfl) T.b_isinstance (by decide +kernel) (pa_cons (pv 1) (pa_cons (pe_bltn (v := .ty "tuple") (by rfl) T.b_tuple (by decide +kernel) rfl) pa_nil))))) (pw_or (pt_not (pt_truth (pv 1) (by intro _; rfl))) (pw_or1 (pt_not (pt_val (pe_callB call_isi (by rfl) T.b_isinstance (by decide +kernel) (pa_cons (pe_ix ix_tup (pv 1) pe_int (fun _ _ => rfl)) (pa_cons (pe_bltn (v := .ty "str") (by rfl) T.b_str (by decide +kernel) rfl) pa_nil))))))))) (pss_one (ps_ret pe_bl)) pss_nil)
    (pss_cut (ps_par (by rfl) scIs_row.nd (i := 3) (j := 4) rfl rfl (by decide) rfl rfl (pa_cons (pe_ix ix_tup (pv 1) pe_int (fun _ _ => rfl)) (pa_cons (pe_slice sl_tup (pv 1) (po_some pe_int) po_none) pa_nil)) (by rfl))
    (pss_cons (ps_if (pt_cmpR op_eq (pv 3) pe_str (nomark _)) (pss_one (ps_ret (pe_and (pe_cmpR op_eq (pe_callB call_len_seq (by rfl) T.b_len (by decide +kernel) (pa_cons (pv 4) pa_nil)) pe_int (nomark _)) (pe_and (pcal C_is_name hr_is_name rfl (pa_cons (pe_ix ix_tup (pv 4) pe_int (fun _ _ => rfl)) pa_nil)) (pe_and (pcal C_is_name hr_is_name rfl (pa_cons (pe_ix ix_tup (pv 4) pe_int (fun _ _ => rfl)) pa_nil)) (pe_one (pcal C_is_parts hr_is_parts rfl (pa_cons (pe_ix ix_tup (pv 4) pe_int (fun _ _ => rfl)) pa_nil)))))))) pss_nil)
    (pss_cons (ps_if (pt_cmpR op_eq (pv 3) pe_str (nomark _)) (pss_one (ps_ret (pe_and (pe_cmpR op_eq (pe_callB call_len_seq (by rfl) T.b_len (by decide +kernel) (pa_cons (pv 4) pa_nil)) pe_int (nomark _)) (pe_and (pcal C_is_name hr_is_name rfl (pa_cons (pe_ix ix_tup (pv 4) pe_int (fun _ _ => rfl)) pa_nil)) (pe_one (pcal C_is_name hr_is_name rfl (pa_cons (pe_ix ix_tup (pv 4) pe_int (fun _ _ => rfl)) pa_nil))))))) pss_nil)
    (pss_cons (ps_if (pt_cmpR op_eq (pv 3) pe_str (nomark _)) (pss_one (ps_ret (pe_and (pe_cmpR op_eq (pe_callB call_len_seq (by rfl) T.b_len (by decide +kernel) (pa_cons (pv 4) pa_nil)) pe_int (nomark _)) (pe_and (pcal C_is_name hr_is_name rfl (pa_cons (pe_ix ix_tup (pv 4) pe_int (fun _ _ => rfl)) pa_nil)) (pe_one (pcal C_is_integer hr_is_integer rfl (pa_cons (pe_ix ix_tup (pv 4) pe_int (fun _ _ => rfl)) pa_nil))))))) pss_nil)
    (pss_cons (ps_if (pt_cmpR op_in_seq (pv 3) (pe_glob (v := .ref _) rfl mA rfl) (by with_unfolding_all rfl)) (pss_one (ps_ret (pe_and (pe_cmpR op_eq (pe_callB call_len_seq (by rfl) T.b_len (by decide +kernel) (pa_cons (pv 4) pa_nil)) pe_int (nomark _)) (pe_one (pcal C_is_name hr_is_name rfl (pa_cons (pe_ix ix_tup (pv 4) pe_int (fun _ _ => rfl)) pa_nil)))))) pss_nil)
    (pss_cons (ps_if (pt_cmpR op_eq (pv 3) pe_str (nomark _)) (pss_one (ps_ret (pe_and (pe_cmpR op_eq (pe_callB call_len_seq (by rfl) T.b_len (by decide +kernel) (pa_cons (pv 4) pa_nil)) pe_int (nomark _)) (pe_one (pcal C_is_number_below hr_is_number_below rfl (pa_cons (pv 2) (pa_cons (pe_ix ix_tup (pv 4) pe_int (fun _ _ => rfl)) pa_nil))))))) pss_nil)
    (pss_cons (ps_if (pt_cmpR op_eq (pv 3) pe_str (nomark _)) (pss_one (ps_ret (pe_and (pe_cmpR op_eq (pe_callB call_len_seq (by rfl) T.b_len (by decide +kernel) (pa_cons (pv 4) pa_nil)) pe_int (nomark _)) (pe_and (pcal C_is_block hr_is_block rfl (pa_cons (pe_op op_add (pv 0) pe_int) (pa_cons (pe_ix ix_tup (pv 4) pe_int (fun _ _ => rfl)) pa_nil))) (pe_one (pcal C_is_block hr_is_block rfl (pa_cons (pe_op op_add (pv 0) pe_int) (pa_cons (pe_ix ix_tup (pv 4) pe_int (fun _ _ => rfl)) pa_nil)))))))) pss_nil)
    (pss_one (ps_ret (pe_and (pe_cmpR op_eq (pv 3) pe_str (nomark _)) (pe_and (pe_cmpR op_eq (pe_callB call_len_seq (by rfl) T.b_len (by decide +kernel) (pa_cons (pv 4) pa_nil)) pe_int (nomark _)) (pe_one (pcal C_is_block hr_is_block rfl (pa_cons (pe_op op_add (pv 0) pe_int) (pa_cons (pe_ix ix_tup (pv 4) pe_int (fun _ _ => rfl)) pa_nil)))))))))))))))), ?_⟩
    refine ⟨_, rfl, _, _, _, _, true, rfl, .ty "tuple", tyT hS, rfl, true, rfl, _, rfl, true, .inr (.inl ⟨_, hS, rfl⟩), _, rfl, _, _, _, _, rfl, rfl, hS, at0, _, _, _, _, true, rfl, .ty "str", .base (.str _), rfl, true, rfl, ?_⟩
    refine ⟨fun σ' H' => ∃ p, σ' = [some (.int d), some (.ref a), some (.int m), some (.str (wordR r)), some (.ref p)] ∧ Same H H' ∧ SqT K H' p tl ∧ Tvs K H' tl (argsR r), ?_, ?_⟩
    · refine ⟨_, rfl, _, _, _, _, rfl, rfl, hS, at0, _, rfl, 1, rfl, a, _, rfl, hS, cut1_ne, fun p np => ⟨_, _, rfl, p, rfl, same_new np, ?_, ht.pt (Pt.new np)⟩⟩
      rw [cut1]
      exact .inl (.inl upd_same)
    · rintro σ' H' ⟨p, rfl, sm, hp, ht⟩
      cases r with
      | note x o ps =>
        obtain ⟨n1, n2, l3, n3⟩ := ok
        obtain ⟨v1, v2, v3, rfl, t1, t2, t3⟩ := ht.three
        cases t1.strI
        cases t2.strI
        exact ⟨_, rfl, rfl, _, rfl, ifD rfl ⟨_, rfl, p, _, rfl, .inr hp, rfl, _, rfl, ifD rfl ⟨_, rfl, _, _, _, _, rfl, rfl, hp, rfl, x, rfl, n1, fun H1 s1 => ⟨_, rfl, _, rfl, _, _, _, _, rfl, rfl, (Same.pt s1).sq hp, rfl, o, rfl, n2, fun H2 s2 => ⟨_, rfl, _, rfl, _, _, _, _, rfl, rfl, ((Same.pt s1).trans (Same.pt s2)).sq hp, rfl, _, ps, rfl, t3.pt ((Same.pt s1).trans (Same.pt s2)), l3, n3, fun H3 s3 => k H3 (((sm.trans s1).trans s2).trans s3)⟩⟩⟩⟩⟩
      | copy x y =>
        obtain ⟨n1, n2⟩ := ok
        obtain ⟨v1, v2, rfl, t1, t2⟩ := ht.two
        cases t1.strI
        cases t2.strI
        refine ⟨_, rfl, rfl, _, rfl, ifDF (neS (a := "copy") (b := "note") (by decide +kernel)) ?_⟩
        exact ⟨_, rfl, rfl, _, rfl, ifD rfl ⟨_, rfl, p, _, rfl, .inr hp, rfl, _, rfl, ifD rfl ⟨_, rfl, _, _, _, _, rfl, rfl, hp, rfl, x, rfl, n1, fun H1 s1 => ⟨_, rfl, _, rfl, _, _, _, _, rfl, rfl, (Same.pt s1).sq hp, rfl, y, rfl, n2, fun H2 s2 => k H2 ((sm.trans s1).trans s2)⟩⟩⟩⟩
      | give x i =>
        have n1 : NameOk x := ok
        obtain ⟨v1, v2, rfl, t1, t2⟩ := ht.two
        cases t1.strI
        cases t2.intI
        refine ⟨_, rfl, rfl, _, rfl, ifDF (neS (a := "give") (b := "note") (by decide +kernel)) ?_⟩
        refine ⟨_, rfl, rfl, _, rfl, ifDF (neS (a := "give") (b := "copy") (by decide +kernel)) ?_⟩
        exact ⟨_, rfl, rfl, _, rfl, ifD rfl ⟨_, rfl, p, _, rfl, .inr hp, rfl, _, rfl, ifD rfl ⟨_, rfl, _, _, _, _, rfl, rfl, hp, rfl, x, rfl, n1, fun H1 s1 => ⟨_, rfl, _, rfl, _, _, _, _, rfl, rfl, (Same.pt s1).sq hp, rfl, _, _, rfl, .int i, k H1 (sm.trans s1)⟩⟩⟩⟩
      | ask x =>
        have n1 : NameOk x := ok
        obtain ⟨v1, rfl, t1⟩ := ht.one
        cases t1.strI
        refine ⟨_, rfl, rfl, _, rfl, ifDF (neS (a := "ask") (b := "note") (by decide +kernel)) ?_⟩
        refine ⟨_, rfl, rfl, _, rfl, ifDF (neS (a := "ask") (b := "copy") (by decide +kernel)) ?_⟩
        refine ⟨_, rfl, rfl, _, rfl, ifDF (neS (a := "ask") (b := "give") (by decide +kernel)) ?_⟩
        exact ⟨_, rfl, aA, _, rfl, .inr (hAs _), rfl, rfl, _, rfl, ifB (show inV (V.str (Str.ofString "ask")) [V.str (Str.ofString "ask"), V.str (Str.ofString "print")] = true by decide +kernel) ⟨_, rfl, p, _, rfl, .inr hp, rfl, _, rfl, ifD rfl ⟨_, rfl, _, _, _, _, rfl, rfl, hp, rfl, x, rfl, n1, fun H1 s1 => k H1 (sm.trans s1)⟩⟩⟩
      | prt x =>
        have n1 : NameOk x := ok
        obtain ⟨v1, rfl, t1⟩ := ht.one
        cases t1.strI
        refine ⟨_, rfl, rfl, _, rfl, ifDF (neS (a := "print") (b := "note") (by decide +kernel)) ?_⟩
        refine ⟨_, rfl, rfl, _, rfl, ifDF (neS (a := "print") (b := "copy") (by decide +kernel)) ?_⟩
        refine ⟨_, rfl, rfl, _, rfl, ifDF (neS (a := "print") (b := "give") (by decide +kernel)) ?_⟩
        exact ⟨_, rfl, aA, _, rfl, .inr (hAs _), rfl, rfl, _, rfl, ifB (show inV (V.str (Str.ofString "print")) [V.str (Str.ofString "ask"), V.str (Str.ofString "print")] = true by decide +kernel) ⟨_, rfl, p, _, rfl, .inr hp, rfl, _, rfl, ifD rfl ⟨_, rfl, _, _, _, _, rfl, rfl, hp, rfl, x, rfl, n1, fun H1 s1 => k H1 (sm.trans s1)⟩⟩⟩
      | either b1 b2 =>
        obtain ⟨d4, l1, l2, _, _⟩ := ok
        obtain ⟨v1, v2, rfl, t1, t2⟩ := ht.two
        refine ⟨_, rfl, rfl, _, rfl, ifDF (neS (a := "either") (b := "note") (by decide +kernel)) ?_⟩
        refine ⟨_, rfl, rfl, _, rfl, ifDF (neS (a := "either") (b := "copy") (by decide +kernel)) ?_⟩
        refine ⟨_, rfl, rfl, _, rfl, ifDF (neS (a := "either") (b := "give") (by decide +kernel)) ?_⟩
        refine ⟨_, rfl, aA, _, rfl, .inr (hAs _), rfl, rfl, _, rfl, ifBF (show inV (V.str (Str.ofString "either")) [V.str (Str.ofString "ask"), V.str (Str.ofString "print")] = false by decide +kernel) ?_⟩
        refine ⟨_, rfl, rfl, _, rfl, ifDF (neS (a := "either") (b := "call") (by decide +kernel)) ?_⟩
        exact ⟨_, rfl, rfl, _, rfl, ifD rfl ⟨_, rfl, p, _, rfl, .inr hp, rfl, _, rfl, ifD rfl ⟨_, rfl, _, _, rfl, rfl, _, rfl, _, _, _, _, rfl, rfl, hp, rfl, _, _, _, rfl, t1, dB_le l1, by omega, ⟨_, rfl, _, rfl, _, _, rfl, rfl, _, rfl, _, _, _, _, rfl, rfl, hp, rfl, _, _, _, rfl, t2, dB_le l2, by omega, k H' sm⟩⟩⟩⟩
      | again b1 =>
        obtain ⟨d4, l1, _⟩ := ok
        obtain ⟨v1, rfl, t1⟩ := ht.one
        refine ⟨_, rfl, rfl, _, rfl, ifDF (neS (a := "again") (b := "note") (by decide +kernel)) ?_⟩
        refine ⟨_, rfl, rfl, _, rfl, ifDF (neS (a := "again") (b := "copy") (by decide +kernel)) ?_⟩
        refine ⟨_, rfl, rfl, _, rfl, ifDF (neS (a := "again") (b := "give") (by decide +kernel)) ?_⟩
        refine ⟨_, rfl, aA, _, rfl, .inr (hAs _), rfl, rfl, _, rfl, ifBF (show inV (V.str (Str.ofString "again")) [V.str (Str.ofString "ask"), V.str (Str.ofString "print")] = false by decide +kernel) ?_⟩
        refine ⟨_, rfl, rfl, _, rfl, ifDF (neS (a := "again") (b := "call") (by decide +kernel)) ?_⟩
        refine ⟨_, rfl, rfl, _, rfl, ifDF (neS (a := "again") (b := "either") (by decide +kernel)) ?_⟩
        exact ⟨_, rfl, rfl, _, rfl, ifD rfl ⟨_, rfl, p, _, rfl, .inr hp, rfl, _, rfl, ifD rfl ⟨_, rfl, _, _, rfl, rfl, _, rfl, _, _, _, _, rfl, rfl, hp, rfl, _, _, _, rfl, t1, dB_le l1, by omega, k H' sm⟩⟩⟩
end
end K05
set_option Elab.async false
set_option linter.all false
set_option maxRecDepth 100000
set_option maxHeartbeats 4000000
namespace PM
open PySem PySem.Spec PyProof.Rows L2 ZX
theorem _root_.L2.Same.put {H H' : Hp} {l : Addr} {o : HO} (s : Same H H') (n : H l = none) : Same H (upd H' l o) := fun b u e => by
  rw [upd_ne (ne_of_none e n)]
  exact s b u e
theorem fm_take {α β : Type} {f : α → List β} {l : List α} {i : Nat} {x : α} (h : l[i]? = some x) : (l.take (i + 1)).flatMap f = (l.take i).flatMap f ++ f x := by
  rw [List.take_succ, h, List.flatMap_append]
  simp
theorem fm_le {α β : Type} {f : α → List β} (l : List α) (i : Nat) : ((l.take i).flatMap f).length ≤ (l.flatMap f).length := by
  have e : (l.take i ++ l.drop i).flatMap f = l.flatMap f := by rw [List.take_append_drop]
  rw [← e, List.flatMap_append, List.length_append]
  exact Nat.le_add_right _ _
theorem fm_le1 {α β : Type} {f : α → List β} {l : List α} {i : Nat} {x : α} (h : l[i]? = some x) : ((l.take i).flatMap f ++ f x).length ≤ (l.flatMap f).length := by
  rw [← fm_take h]
  exact fm_le l (i + 1)
theorem depB_mem {r : Rw} : ∀ {b : List Rw}, r ∈ b → depR r ≤ depB b
  | _ :: b, h => by
    rcases List.mem_cons.mp h with h | h
    · subst h
      exact Nat.le_max_left _ _
    · exact Nat.le_trans (depB_mem h) (Nat.le_max_right _ _)
theorem dep_inner {r : Rw} {c : List Rw} (h : c ∈ inner r) : depB c < depR r := by
  cases r with
  | either a b =>
    simp [inner] at h
    rcases h with rfl | rfl
    · exact Nat.lt_succ_of_le (Nat.le_max_left _ _)
    · exact Nat.lt_succ_of_le (Nat.le_max_right _ _)
  | again a =>
    simp [inner] at h
    subst h
    exact Nat.lt_succ_self _
  | _ => simp [inner] at h
theorem inner_args (r : Rw) (h : inner r ≠ []) : argsR r = (inner r).map fun b => .tuple (dB b) := by
  cases r <;> simp [inner] at h <;> rfl
theorem word_inner (r : Rw) : (inner r).isEmpty = !((wordR r == Str.ofString "either") || (wordR r == Str.ofString "again")) := by
  cases r with
  | note _ _ _ => exact (by decide +kernel : true = !(Str.ofString "note" == Str.ofString "either" || Str.ofString "note" == Str.ofString "again"))
  | copy _ _ => exact (by decide +kernel : true = !(Str.ofString "copy" == Str.ofString "either" || Str.ofString "copy" == Str.ofString "again"))
  | give _ _ => exact (by decide +kernel : true = !(Str.ofString "give" == Str.ofString "either" || Str.ofString "give" == Str.ofString "again"))
  | ask _ => exact (by decide +kernel : true = !(Str.ofString "ask" == Str.ofString "either" || Str.ofString "ask" == Str.ofString "again"))
  | prt _ => exact (by decide +kernel : true = !(Str.ofString "print" == Str.ofString "either" || Str.ofString "print" == Str.ofString "again"))
  | either _ _ => exact (by decide +kernel : false = !(Str.ofString "either" == Str.ofString "either" || Str.ofString "either" == Str.ofString "again"))
  | again _ => exact (by decide +kernel : false = !(Str.ofString "again" == Str.ofString "either" || Str.ofString "again" == Str.ofString "again"))
section
variable {K : PySem.W.Frag} {H : Hp}
theorem Tvs.nthR {vs : List V} {b : List Rw} {i : Nat} {x : V} (t : Tvs K H vs (dB b)) (h : vs[i]? = some x) : ∃ r, b[i]? = some r ∧ RV K H x r := by
  have hl : i < vs.length := (List.getElem?_eq_some_iff.mp h).1
  rw [t.len, dB_eq, List.length_map] at hl
  obtain ⟨v, hv, tv⟩ := Tvs.get (i := i) (d := dR b[i]) t (by rw [dB_eq, List.getElem?_map, List.getElem?_eq_getElem hl]; rfl)
  rw [h] at hv
  cases hv
  exact ⟨_, List.getElem?_eq_getElem hl, tv⟩
theorem Tvs.nthB {vs : List V} {bs : List (List Rw)} {i : Nat} {x : V} (t : Tvs K H vs (bs.map fun b => .tuple (dB b))) (h : vs[i]? = some x) : ∃ c, bs[i]? = some c ∧ BV K H x c := by
  have hl : i < vs.length := (List.getElem?_eq_some_iff.mp h).1
  rw [t.len, List.length_map] at hl
  obtain ⟨v, hv, tv⟩ := Tvs.get (i := i) (d := .tuple (dB bs[i])) t (by rw [List.getElem?_map, List.getElem?_eq_getElem hl]; rfl)
  rw [h] at hv
  cases hv
  exact ⟨_, List.getElem?_eq_getElem hl, tv⟩
end
end PM
namespace K05
open PySem PySem.Spec PyProof.Rows L2 ZX PM ZR
def spRowsOf (K : PySem.W.Frag) (n : Nat) : Sp := fun vs H Q _ => ∃ (v : V) (b : List Rw), vs = [v] ∧ BV K H v b ∧ depB b < n ∧ (rowsB b).length ≤ 1000000 ∧ ∀ l us H', Same H H' → H l = none → H' l = some (.lst us) → Tvs K H' us ((rowsB b).map dR) → Q (.ref l) H'
def spNamesOf (K : PySem.W.Frag) : Sp := fun vs H Q _ => ∃ (v : V) (r : Rw), vs = [v] ∧ RV K H v r ∧ (namesR r).length ≤ 4 ∧ ∀ l H', Same H H' → H l = none → H' l = some (.lst ((namesR r).map V.str)) → Q (.ref l) H'
section
variable {P : Program} {w : World} {K : PySem.W.Frag} {mg : Str → Option Value} {base : Heap}
theorem scBlocks_of : FnScope ["row"] ["row"] (defScope sBlocks_of) := ⟨rfl, rfl, rfl, by decide +kernel, rfl, by decide +kernel, by decide +kernel⟩
theorem ok_blocks_of {f : Addr} {fd : FuncData} (F : FnP K "blocks_of" sBlocks_of f fd) (T : Bi mg) : FnOk P w K mg base CX0 1 f fd ["row"] (spBlocksOf K) := by
  refine F.ok scBlocks_of (fun vs H Q E h => ?_) (fun cdv A outer s H vs Q E hr h => ?_)
  · obtain ⟨v, r, rfl, _⟩ := h
    rfl
  · obtain ⟨v, r, rfl, tv, k⟩ := h
    obtain ⟨a, tl, rfl, hS, ht⟩ := tv.rowI
    refine ⟨_, PSs.nox (pss_one (ps_ret (pe_ifExp (pt_cmpR op_in_seq (pe_ix ix_tup (pv 0) pe_int (fun _ _ => rfl)) (pe_tup (pa_cons pe_str (pa_cons pe_str pa_nil))) (by with_unfolding_all rfl)) (pe_slice sl_tup (pv 0) (po_some pe_int) po_none) (pe_tup pa_nil)))), ?_⟩
    refine ⟨_, rfl, _, _, _, _, rfl, rfl, hS, at0, by decide, fun t nt => ?_⟩
    have pt := Pt.new (o := .tup [V.str "either", V.str "again"]) nt
    have ei : inV (V.str (wordR r)) [V.str "either", V.str "again"] = !(inner r).isEmpty := by
      rw [word_inner, Bool.not_not]
      show (Str.ofString "either" == wordR r || (Str.ofString "again" == wordR r || false)) = _
      rw [Bool.or_false, BEq.comm, BEq.comm (a := Str.ofString "again")]
    refine ⟨_, _, rfl, .inr (.inl (.inl upd_same)), rfl, rfl, _, rfl, ?_⟩
    show if inV (V.str (wordR r)) [V.str "either", V.str "again"] = true then _ else _
    cases hi : (inner r).isEmpty with
    | true =>
      refine ifBF (by rw [ei, hi]; rfl) ⟨by decide, fun p np => k p [] _ ((same_new nt).trans (same_new np)) (.inl (.inl upd_same)) ?_⟩
      rw [List.isEmpty_iff.mp hi]
      exact .nil
    | false =>
      refine ifB (by rw [ei, hi]; rfl) ⟨_, rfl, 1, rfl, a, _, rfl, pt.sq hS, cut1_ne, fun p np => ?_⟩
      refine k p tl _ ((same_new nt).trans (same_new np)) ?_ ?_
      · rw [cut1]
        exact .inl (.inl upd_same)
      · rw [← inner_args r (fun e => by rw [e] at hi; cases hi)]
        exact ht.pt (pt.trans (Pt.new np))
theorem scNames_of : FnScope ["row"] ["row"] (defScope sNames_of) := ⟨rfl, rfl, rfl, by decide +kernel, rfl, by decide +kernel, by decide +kernel⟩
theorem ok_names_of {f : Addr} {fd : FuncData} (F : FnP K "names_of" sNames_of f fd) (T : Bi mg) (hA : Asking K mg) : FnOk P w K mg base CX0 2 f fd ["row"] (spNamesOf K) := by
  refine F.ok scNames_of (fun vs H Q E h => ?_) (fun cdv A outer s H vs Q E hr h => ?_)
  · obtain ⟨v, r, rfl, _⟩ := h
    rfl
  · obtain ⟨v, r, rfl, tv, hl, k⟩ := h
    obtain ⟨a, tl, rfl, hS, ht⟩ := tv.rowI
    obtain ⟨aA, mA, hAs⟩ := hA
    refine ⟨_, PSs.nox (pss_cons (ps_if (pt_cmpR op_eq (pe_ix ix_tup (pv 0) pe_int (fun _ _ => rfl)) pe_str (nomark _)) (pss_one (ps_ret (pe_lst (pa_cons (pe_ix ix_tup (pv 0) pe_int (fun _ _ => rfl)) (StX.pa_star (pe_ix ix_tup (pv 0) pe_int (fun _ _ => rfl)) pa_nil))))) pss_nil)
    (pss_cons (ps_if (pt_cmpR op_eq (pe_ix ix_tup (pv 0) pe_int (fun _ _ => rfl)) pe_str (nomark _)) (pss_one (ps_ret (pe_lst (pa_cons (pe_ix ix_tup (pv 0) pe_int (fun _ _ => rfl)) (pa_cons (pe_ix ix_tup (pv 0) pe_int (fun _ _ => rfl)) pa_nil))))) pss_nil)
    (pss_one (ps_ret (pe_ifExp (PW.pt (pw_or (pt_cmpR op_eq (pe_ix ix_tup (pv 0) pe_int (fun _ _ => rfl)) pe_str (nomark _)) (pw_or1 (pt_cmpR op_in_seq (pe_ix ix_tup (pv 0) pe_int (fun _ _ => rfl)) (pe_glob (v := .ref _) rfl mA rfl) (by with_unfolding_all rfl))))) (pe_lst (pa_cons (pe_ix ix_tup (pv 0) pe_int (fun _ _ => rfl)) pa_nil)) (pe_lst pa_nil)))))), ?_⟩
    have go : ∀ (xs : List V) (H' : Hp), Same H H' → xs = (namesR r).map V.str → xs.length ≤ sizeLine ∧ ∀ l, H' l = none → Q (.ref l) (upd H' l (.lst xs)) := fun xs H' sm e => ⟨by
      rw [e, List.length_map]
      exact Nat.le_trans hl (by decide), fun l nl => k l _ (sm.trans (same_new nl)) (sm.free nl) (by rw [e]; exact upd_same)⟩
    refine ⟨_, rfl, _, _, _, _, rfl, rfl, hS, at0, rfl, _, rfl, ?_⟩
    cases r with
    | note x o ps =>
      obtain ⟨v1, v2, v3, rfl, t1, t2, t3⟩ := ht.three
      cases t1.strI
      cases t2.strI
      obtain ⟨a3, xs3, rfl, hS3, ht3⟩ := t3.tupI
      have e3 := Tvs.strs ht3
      subst e3
      exact ifD rfl ⟨_, rfl, _, _, _, _, rfl, rfl, hS, rfl, _, rfl, _, _, _, _, rfl, rfl, hS, rfl, _, _, rfl, .inl hS3, go _ _ (fun _ _ h => h) (by show _ :: (_ ++ []) = _; rw [List.append_nil]; rfl)⟩
    | copy x y =>
      obtain ⟨v1, v2, rfl, t1, t2⟩ := ht.two
      cases t1.strI
      cases t2.strI
      exact ifDF (neS (a := "copy") (b := "note") (by decide +kernel)) ⟨_, rfl, _, _, _, _, rfl, rfl, hS, rfl, rfl, _, rfl, ifD rfl ⟨_, rfl, _, _, _, _, rfl, rfl, hS, rfl, _, rfl, _, _, _, _, rfl, rfl, hS, rfl, go _ _ (fun _ _ h => h) rfl⟩⟩
    | give x i =>
      obtain ⟨v1, v2, rfl, t1, t2⟩ := ht.two
      cases t1.strI
      exact ifDF (neS (a := "give") (b := "note") (by decide +kernel)) ⟨_, rfl, _, _, _, _, rfl, rfl, hS, rfl, rfl, _, rfl, ifDF (neS (a := "give") (b := "copy") (by decide +kernel)) ⟨_, rfl, _, _, _, _, rfl, rfl, hS, rfl, rfl, _, rfl, ifD rfl ⟨_, rfl, _, _, _, _, rfl, rfl, hS, rfl, go _ _ (fun _ _ h => h) rfl⟩⟩⟩
    | ask x =>
      obtain ⟨v1, rfl, t1⟩ := ht.one
      cases t1.strI
      exact ifDF (neS (a := "ask") (b := "note") (by decide +kernel)) ⟨_, rfl, _, _, _, _, rfl, rfl, hS, rfl, rfl, _, rfl, ifDF (neS (a := "ask") (b := "copy") (by decide +kernel)) ⟨_, rfl, _, _, _, _, rfl, rfl, hS, rfl, rfl, _, rfl, ifDF (neS (a := "ask") (b := "give") (by decide +kernel)) ⟨_, rfl, _, _, _, _, rfl, rfl, hS, rfl, aA, _, rfl, .inr (hAs _), rfl, rfl, _, rfl, ifB (show inV (V.str (Str.ofString "ask")) [V.str (Str.ofString "ask"), V.str (Str.ofString "print")] = true by decide +kernel) ⟨_, rfl, _, _, _, _, rfl, rfl, hS, rfl, go _ _ (fun _ _ h => h) rfl⟩⟩⟩⟩
    | prt x =>
      obtain ⟨v1, rfl, t1⟩ := ht.one
      cases t1.strI
      exact ifDF (neS (a := "print") (b := "note") (by decide +kernel)) ⟨_, rfl, _, _, _, _, rfl, rfl, hS, rfl, rfl, _, rfl, ifDF (neS (a := "print") (b := "copy") (by decide +kernel)) ⟨_, rfl, _, _, _, _, rfl, rfl, hS, rfl, rfl, _, rfl, ifDF (neS (a := "print") (b := "give") (by decide +kernel)) ⟨_, rfl, _, _, _, _, rfl, rfl, hS, rfl, aA, _, rfl, .inr (hAs _), rfl, rfl, _, rfl, ifB (show inV (V.str (Str.ofString "print")) [V.str (Str.ofString "ask"), V.str (Str.ofString "print")] = true by decide +kernel) ⟨_, rfl, _, _, _, _, rfl, rfl, hS, rfl, go _ _ (fun _ _ h => h) rfl⟩⟩⟩⟩
    | either b1 b2 =>
      obtain ⟨v1, v2, rfl, t1, t2⟩ := ht.two
      exact ifDF (neS (a := "either") (b := "note") (by decide +kernel)) ⟨_, rfl, _, _, _, _, rfl, rfl, hS, rfl, rfl, _, rfl, ifDF (neS (a := "either") (b := "copy") (by decide +kernel)) ⟨_, rfl, _, _, _, _, rfl, rfl, hS, rfl, rfl, _, rfl, ifDF (neS (a := "either") (b := "give") (by decide +kernel)) ⟨_, rfl, _, _, _, _, rfl, rfl, hS, rfl, aA, _, rfl, .inr (hAs _), rfl, rfl, _, rfl, ifBF (show inV (V.str (Str.ofString "either")) [V.str (Str.ofString "ask"), V.str (Str.ofString "print")] = false by decide +kernel) (go _ _ (fun _ _ h => h) rfl)⟩⟩⟩
    | again b1 =>
      obtain ⟨v1, rfl, t1⟩ := ht.one
      exact ifDF (neS (a := "again") (b := "note") (by decide +kernel)) ⟨_, rfl, _, _, _, _, rfl, rfl, hS, rfl, rfl, _, rfl, ifDF (neS (a := "again") (b := "copy") (by decide +kernel)) ⟨_, rfl, _, _, _, _, rfl, rfl, hS, rfl, rfl, _, rfl, ifDF (neS (a := "again") (b := "give") (by decide +kernel)) ⟨_, rfl, _, _, _, _, rfl, rfl, hS, rfl, aA, _, rfl, .inr (hAs _), rfl, rfl, _, rfl, ifBF (show inV (V.str (Str.ofString "again")) [V.str (Str.ofString "ask"), V.str (Str.ofString "print")] = false by decide +kernel) (go _ _ (fun _ _ h => h) rfl)⟩⟩⟩
theorem scRows_of : FnScope ["block", "found", "row", "inner"] ["block"] (defScope sRows_of) := ⟨rfl, rfl, rfl, by decide +kernel, rfl, by decide +kernel, by decide +kernel⟩
theorem ok_rows_of0 {f : Addr} {fd : FuncData} (k : Nat) : FnOk P w K mg base CX0 k f fd ["block"] (spRowsOf K 0) :=
  ⟨fun vs H Q E h => by
    obtain ⟨_, _, _, _, h, _⟩ := h
    exact absurd h (Nat.not_lt_zero _), fun A outer s H args us vs Q E hr e0 hb r h => by
    obtain ⟨_, _, _, _, h, _⟩ := h
    exact absurd h (Nat.not_lt_zero _)⟩
/-- between two turns of rows_of -/
def RowsMid (K : PySem.W.Frag) (v : V) (l : Addr) (H0 : Hp) (rs : List Rw) (y : Option V) (σ : L2.St) (H : Hp) : Prop := ∃ (us : List V) (z : Option V), σ = [some v, some (.ref l), y, z] ∧ Same H0 H ∧ H l = some (.lst us) ∧ Tvs K H us (rs.map dR)
theorem ok_rows_of1 {n : Nat} {f : Addr} {fd : FuncData} (F : FnP K "rows_of" sRows_of f fd) (T : Bi mg) (C_blocks_of : Cal P w K mg base "blocks_of" 1 ["row"] (spBlocksOf K)) (C_rows_of : Cal P w K mg base "rows_of" (n + 1) ["block"] (spRowsOf K n)) : FnOk P w K mg base CX0 (n + 2) f fd ["block"] (spRowsOf K (n + 1)) := by
  refine F.ok scRows_of (fun vs H Q E h => ?_) (fun cdv A outer s H vs Q E hr h => ?_)
  · obtain ⟨v, r, rfl, _⟩ := h
    rfl
  · obtain ⟨v, b, rfl, tv, hd, hn, k⟩ := h
    obtain ⟨a, xs, rfl, hS, ht⟩ := tv.tupI
    have hr_blocks_of := hr.mono (show 1 ≤ n + 1 by omega)
    have hr_rows_of := hr
    refine ⟨_, PSs.nox (pss_cons (ps_set (i := 1) scRows_of.nd rfl (Or.inl rfl) (pe_lst pa_nil))
    (pss_cons (ps_for PassesOwn.never rfl (pi_tup (pv 0)) (pg_name (i := 2) scRows_of.nd rfl (Or.inl rfl)) (pss_cut (ps_expr (pe_bm PySem.F.plainAttrs_list PySem.F.slot_list_append PySem.F.type_list_append mt_append (pv 1) (pa_cons (pv 2) pa_nil)))
      (pss_one (ps_for PassesOwn.never rfl (pi_tup (pcal C_blocks_of hr_blocks_of rfl (pa_cons (pv 2) pa_nil))) (pg_name (i := 3) scRows_of.nd rfl (Or.inl rfl)) (pss_one (ps_expr (pe_bm PySem.F.plainAttrs_list PySem.F.slot_list_extend PySem.F.type_list_extend mt_extend (pv 1) (pa_cons (pcal C_rows_of hr_rows_of rfl (pa_cons (pv 3) pa_nil)) pa_nil))))))))
    (pss_one (ps_ret (pv 1))))), ?_⟩
    refine ⟨by decide, fun l nl => ?_⟩
    refine ⟨_, rfl, a, rfl, ⟨xs, (Pt.new nl).sq hS⟩, ?_⟩
    refine for_tup (xs := xs) (fun i σ' H' => ∃ y, RowsMid K (.ref a) l H ((b.take i).flatMap rowsR) y σ' H') ⟨_, [], _, rfl, same_new nl, upd_same, .nil⟩ ?_ ?_ ?_
    · rintro i σ' H' _ ⟨y, us, z, rfl, sm, hl, hu⟩
      exact sm.pt.sq hS
    · rintro i x σ' H' hx ⟨y, us, z, rfl, sm, hl, hu⟩
      obtain ⟨r, hr, tr⟩ := (ht.pt sm.pt).nthR hx
      have hle : ((b.take i).flatMap rowsR ++ rowsR r).length ≤ 1000000 := Nat.le_trans (fm_le1 hr) (by rw [← rowsB_eq]; exact hn)
      have hrm : r ∈ b := List.mem_of_getElem? hr
      rw [rowsR_eq, List.length_append, List.length_cons] at hle
      have hul := hu.len
      rw [List.length_map] at hul
      refine ⟨fun σ2 H2 => RowsMid K (.ref a) l H ((b.take i).flatMap rowsR ++ [r]) (some x) σ2 H2 ∧ RV K H2 x r, ?_, ?_⟩
      · refine ⟨_, rfl, .inl ⟨rfl, _, SqL.of hl⟩, _, rfl, l, us, x, rfl, rfl, hl, Nat.lt_of_le_of_lt (by omega : us.length ≤ 1000000) (by decide), ?_⟩
        have pt := Pt.lst (o := .lst (us ++ [x])) hl
        refine ⟨⟨us ++ [x], _, rfl, sm.put nl, upd_same, ?_⟩, tr.pt pt⟩
        rw [List.map_append]
        exact Tvs.app (hu.pt pt) (.cons (tr.pt pt) .nil)
      · rintro σ2 H2 ⟨⟨us, z, rfl, sm, hl, hu⟩, tr⟩
        refine ⟨_, rfl, x, r, rfl, tr, fun c ys H3 s3 hc hys => ⟨c, rfl, ⟨ys, hc⟩, ?_⟩⟩
        refine for_tup (xs := ys) (fun j σ' H' => RowsMid K (.ref a) l H ((b.take i).flatMap rowsR ++ r :: ((inner r).take j).flatMap rowsB) (some x) σ' H' ∧ Pt H3 H') ⟨⟨us, _, rfl, sm.trans s3, s3 _ _ hl, hu.pt s3.pt⟩, Pt.refl _⟩ ?_ ?_ ?_
        · rintro j σ' H' _ ⟨_, p3⟩
          exact p3.sq hc
        · rintro j y σ' H' hy ⟨⟨us, z, rfl, sm, hl, hu⟩, p3⟩
          obtain ⟨cb, hcb, tc⟩ := (hys.pt p3).nthB hy
          have hle2 := fm_le1 (f := rowsB) hcb
          rw [List.length_append] at hle2
          have hcm : cb ∈ inner r := List.mem_of_getElem? hcb
          have hdp : depB cb < n := by
            have := dep_inner hcm
            have := depB_mem hrm
            omega
          have hul := hu.len
          rw [List.length_map, List.length_append, List.length_cons] at hul
          refine ⟨_, rfl, .inl ⟨rfl, _, SqL.of hl⟩, _, rfl, y, cb, rfl, tc, hdp, by omega, fun l2 zs H4 s4 n4 h4 t4 => ?_⟩
          have hzl := t4.len
          rw [List.length_map] at hzl
          refine ⟨l, l2, us, zs, rfl, rfl, s4 _ _ hl, h4, Nat.le_trans (by omega : us.length + zs.length ≤ 1000000) (by decide), ?_⟩
          have pt := Pt.lst (o := .lst (us ++ zs)) (s4 _ _ hl)
          refine ⟨⟨us ++ zs, _, rfl, (sm.trans s4).put nl, upd_same, ?_⟩, (p3.trans s4.pt).trans pt⟩
          rw [fm_take hcb, ← List.cons_append, ← List.append_assoc, List.map_append]
          exact Tvs.app ((hu.pt s4.pt).pt pt) (t4.pt pt)
        · rintro σ' H' ⟨⟨us, z, rfl, sm, hl, hu⟩, _⟩
          have e : ys.length = (inner r).length := by rw [hys.len, List.length_map]
          refine ⟨_, us, z, rfl, sm, hl, ?_⟩
          rw [fm_take hr, rowsR_eq]
          rw [e, List.take_length] at hu
          exact hu
    · rintro σ' H' ⟨y, us, z, rfl, sm, hl, hu⟩
      have e : xs.length = b.length := by rw [ht.len, dB_eq, List.length_map]
      rw [e, List.take_length, ← rowsB_eq] at hu
      exact ⟨_, rfl, k l us H' sm nl hl hu⟩
end
end K05
set_option Elab.async false
set_option linter.all false
set_option maxRecDepth 100000
set_option maxHeartbeats 4000000
namespace PM
open PySem PySem.Spec PyProof.Rows L2 ZX
/-! ### rows ahead, with their depth -/
def dP (e : Nat × Rw) : PyData := .tuple [.int e.1, dR e.2]
def tot (st : List (Nat × Rw)) : Nat := (st.map fun e => (rowsR e.2).length).sum
def push (d : Nat) (b : List Rw) : List (Nat × Rw) := b.reverse.map fun r => (d, r)
theorem tot_app (a b : List (Nat × Rw)) : tot (a ++ b) = tot a + tot b := by simp [tot]
theorem tot_push (d : Nat) : ∀ b : List Rw, tot (push d b) = (rowsB b).length
  | [] => rfl
  | r :: b => by
    have h := tot_push d b
    have e : push d (r :: b) = push d b ++ [(d, r)] := by simp [push]
    rw [e, tot_app, h, rowsB, List.length_append]
    show _ + ((rowsR r).length + 0) = _
    omega
theorem len_tot : ∀ st : List (Nat × Rw), st.length ≤ tot st
  | [] => Nat.le_refl _
  | e :: st => by
    have h := len_tot st
    have p := rowsR_pos e.2
    show st.length + 1 ≤ (rowsR e.2).length + tot st
    omega
theorem tot_fm (d : Nat) (L : List (List Rw)) : tot (L.flatMap (push d)) = (L.flatMap rowsB).length := by
  induction L with
  | nil => rfl
  | cons c L ih => rw [List.flatMap_cons, tot_app, tot_push, ih, List.flatMap_cons, List.length_append]
theorem tot_rev (d : Nat) (r : Rw) : tot ((inner r).reverse.flatMap (push d)) + 1 = (rowsR r).length := by
  rw [tot_fm, rowsR_eq, List.length_cons]
  cases r <;> simp [inner]
  omega
def okS (st : List (Nat × Rw)) : Prop := ∀ e ∈ st, okR e.1 e.2
theorem okB_mem {d : Nat} {r : Rw} : ∀ {b : List Rw}, okB d b → r ∈ b → okR d r
  | _ :: _, h, hm => by
    rcases List.mem_cons.mp hm with e | hm
    · exact e ▸ h.1
    · exact okB_mem h.2 hm
theorem ok_inner {d : Nat} {r : Rw} {c : List Rw} (h : okR d r) (hc : c ∈ inner r) : okB (d + 1) c := by
  cases r with
  | either a b =>
    obtain ⟨_, _, _, h1, h2⟩ := h
    simp [inner] at hc
    rcases hc with rfl | rfl
    · exact h1
    · exact h2
  | again a =>
    obtain ⟨_, _, h1⟩ := h
    simp [inner] at hc
    subst hc
    exact h1
  | _ => simp [inner] at hc
theorem okS_push {d : Nat} {b : List Rw} (h : okB d b) : okS (push d b) := fun e he => by
  obtain ⟨r, hr, rfl⟩ := List.mem_map.mp he
  exact okB_mem h (List.mem_reverse.mp hr)
theorem okS_app {a b : List (Nat × Rw)} (h : okS a) (k : okS b) : okS (a ++ b) := fun e he => (List.mem_append.mp he).elim (h e) (k e)
theorem snoc_or {α : Type} (l : List α) : l = [] ∨ ∃ m x, l = m ++ [x] := by
  rcases h : l.reverse with _ | ⟨x, m⟩
  · exact .inl (List.reverse_eq_nil_iff.mp h)
  · refine .inr ⟨m.reverse, x, ?_⟩
    rw [← List.reverse_cons, ← h, List.reverse_reverse]
end PM
namespace K05
open PySem PySem.Spec PyProof.Rows L2 ZX PM ZR
def spFormless (K : PySem.W.Frag) : Sp := fun vs H Q _ => ∃ (v : V) (b : List Rw) (mn : Int), vs = [v, .int mn] ∧ BV K H v b ∧ okB 1 b ∧ (rowsB b).length ≤ 1000 ∧ ∀ H', Same H H' → Q .non H'
/-- between two turns -/
def ForMid (K : PySem.W.Frag) (mn : Int) (v : V) (l : Addr) (H0 : Hp) (m : Nat) (σ : L2.St) (H : Hp) : Prop := ∃ (us : List V) (st : List (Nat × Rw)) (n : Int) (y1 y4 y5 : Option V), σ = [some v, some (.int mn), y1, some (.ref l), some (.int n), y4, y5, none] ∧
  Same H0 H ∧ H l = some (.lst us) ∧ Tvs K H us (st.map dP) ∧ okS st ∧ tot st = m ∧ m ≤ 1000
section
variable {P : Program} {w : World} {K : PySem.W.Frag} {mg : Str → Option Value} {base : Heap}
theorem scFormless_place : FnScope ["block", "many", "row", "ahead", "place", "deep", "inner", "each"] ["block", "many"] (defScope sFormless_place) := ⟨rfl, rfl, rfl, by decide +kernel, rfl, by decide +kernel, by decide +kernel⟩
theorem ok_formless {f : Addr} {fd : FuncData} (F : FnP K "formless_place" sFormless_place f fd) (T : Bi mg) (C_is_row : Cal P w K mg base "is_row" 3 ["deep", "thing", "many"] (spIsRow K)) (C_blocks_of : Cal P w K mg base "blocks_of" 1 ["row"] (spBlocksOf K)) : FnOk P w K mg base CX0 4 f fd ["block", "many"] (spFormless K) := by
  refine F.ok scFormless_place (fun vs H Q E h => ?_) (fun cdv A outer s H vs Q E hr h => ?_)
  · obtain ⟨v, r, mn, rfl, _⟩ := h
    rfl
  · obtain ⟨v, b, mn, rfl, tv, ok, hn, k⟩ := h
    obtain ⟨a, xs, rfl, hS, ht⟩ := tv.tupI
    have hr_blocks_of := hr.mono (show 1 ≤ 3 by decide)
    have hr_is_row := hr
    refine ⟨_, PSs.nox (pss_cons (ps_setLcS (i := 3) (own := [("row", 2)]) (g := gName 2) (tt := tYes) rfl scFormless_place.nd rfl rfl (sw_true rfl rfl rfl (by decide +kernel)) (pi_tup (ZR.pe_revT (pv 0))) (blkOk_by (N := ["block", "many", "row", "ahead", "place", "deep", "inner", "each"]) (sc := defScope sFormless_place) (by decide +kernel)) (fun _ _ _ _ _ => (pg_name (i := 2) scFormless_place.nd rfl (Or.inl rfl))) (fun _ _ _ _ _ => pts_nil) (fun _ _ _ _ _ => (pe_tup (pa_cons pe_int (pa_cons (pv 2) pa_nil)))))
    (pss_cons (ps_set (i := 4) scFormless_place.nd rfl (Or.inl rfl) pe_int)
    (pss_cons (ps_while PassesOwn.never (pt_truth (pv 3) (by intro _; rfl)) (pss_cut (ps_asg (pe_bm0 PySem.F.plainAttrs_list PySem.F.slot_list_pop PySem.F.type_list_pop mt_pop (pv 3)) (pg_tup rfl (pgs_cons (pg_name (i := 5) scFormless_place.nd rfl (Or.inr rfl)) (pgs_cons (pg_name (i := 2) scFormless_place.nd rfl (Or.inl rfl)) pgs_nil))))
      (pss_cons (ps_if (pt_not (pt_val (pcal C_is_row hr_is_row rfl (pa_cons (pv 5) (pa_cons (pv 2) (pa_cons (pv 1) pa_nil)))))) (pss_one (ps_ret (pv 4))) pss_nil)
      (pss_cons (ps_for PassesOwn.never rfl (pi_tup (ZR.pe_revT (pcal C_blocks_of hr_blocks_of rfl (pa_cons (pv 2) pa_nil)))) (pg_name (i := 6) scFormless_place.nd rfl (Or.inl rfl)) (pss_one (ps_expr (pe_bm PySem.F.plainAttrs_list PySem.F.slot_list_extend PySem.F.type_list_extend mt_extend (pv 3) (pa_cons (pe_lcS (own := [("each", 7)]) (g := gName 7) (tt := tYes) (by rfl) scFormless_place.nd (pi_tup (ZR.pe_revT (pv 6))) (blkOk_by (N := ["block", "many", "row", "ahead", "place", "deep", "inner", "each"]) (sc := defScope sFormless_place) (by decide +kernel)) (fun _ _ _ _ _ => (pg_name (i := 7) scFormless_place.nd rfl (Or.inl rfl))) (fun _ _ _ _ _ => pts_nil) (fun _ _ _ _ _ => (pe_tup (pa_cons (pe_op op_add (pv 5) pe_int) (pa_cons (pv 7) pa_nil))))) pa_nil)))))
      (pss_one (ps_aug (i := 4) scFormless_place.nd rfl (Or.inl rfl) pe_int ip_add))))))
    (pss_one (ps_ret pe_non))))), ?_⟩
    refine lc_into ?_
    refine ⟨_, rfl, a, xs, rfl, hS, fun q nq => ⟨q, rfl, ⟨_, .inl (.inl upd_same)⟩, ?_⟩⟩
    have hx : xs.reverse.length = b.length := by rw [List.length_reverse, ht.len, dB_eq, List.length_map]
    have hbl : b.length ≤ 1000 := by
      have := len_tot (push 1 b)
      rw [tot_push] at this
      have e : (push 1 b).length = b.length := by simp [push]
      omega
    refine lc_overA (p := none) (as := push 1 b) (Rel := fun H e y => Tv K H y (dP e)) it_tup ?_ (fun c y H H' pt h => h.pt pt) (fun _ h => nomatch h) ?_ (fun H' _ pt => pt.sq (.inl (.inl upd_same))) ?_ ?_
    · rw [hx]
      simp [push]
    · rw [hx]
      exact Nat.lt_of_le_of_lt hbl (by decide)
    · intro i x c hx hc H' kq pt R k
      have hrv := (ht.pt ((Pt.new (o := .tup xs.reverse) nq).trans pt)).rev
      rw [dB_eq, ← List.map_reverse, ← dB_eq] at hrv
      obtain ⟨r, hr, tr⟩ := hrv.nthR hx
      have ec : c = (1, r) := by
        have := hc
        rw [push, List.getElem?_map, hr] at this
        exact (Option.some.inj this).symm
      subst ec
      refine ⟨rfl, _, rfl, (by show 2 ≤ sizeLine; decide), fun t nt => k _ _ (Same.kq (same_new nt)) (Pt.new nt) (.tup (.inl (.inl upd_same)) (.cons (.int _) (.cons (tr.pt (Pt.new nt)) .nil)))⟩
    · intro l us H' kq _ nl hl all
      have hl0 : H l = none := (same_new nq).free nl
      refine ⟨fun m σ' H' => ForMid K mn (.ref a) l H m σ' H', ⟨_, us, push 1 b, 0, none, none, none, rfl, (same_new nq).trans kq.same, hl, Tvs.ofAll2 all, okS_push ok, rfl, by rw [tot_push]; exact hn⟩, ?_⟩
      rintro m σ' H' ⟨us, st, n, y1, y4, y5, rfl, sm, hl, hu, hok, rfl, hm⟩
      have hul := hu.len
      rw [List.length_map] at hul
      rcases snoc_or st with rfl | ⟨st', ⟨d, r⟩, rfl⟩
      · cases hu
        exact ⟨_, rfl, false, .inl ⟨_, SqL.of hl, rfl⟩, k H' sm⟩
      · rw [List.map_append] at hu
        obtain ⟨us', u, rfl, hu', tu⟩ := hu.snocI
        refine ⟨_, rfl, true, .inl ⟨_, SqL.of hl, by simp⟩, fun σ2 H2 => ∃ m', m' < tot (st' ++ [(d, r)]) ∧ ForMid K mn (.ref a) l H m' σ2 H2, fun _ _ h => h, ?_⟩
        obtain ⟨ta, tx, rfl, htS, htt⟩ := tu.tupI
        obtain ⟨v1, v2, rfl, t1, t2⟩ := htt.two
        cases t1.intI
        have okr : okR d r := hok (d, r) (List.mem_append_right _ List.mem_cons_self)
        have okst : okS st' := fun e he => hok e (List.mem_append_left _ he)
        have htot : tot (st' ++ [(d, r)]) = tot st' + (rowsR r).length := by
          rw [tot_app]
          show _ + ((rowsR r).length + 0) = _
          omega
        have hrev := tot_rev (d + 1) r
        have hat : (us' ++ [V.ref ta])[(us' ++ [V.ref ta]).length - 1]? = some (V.ref ta) := by simp
        have hdl : (us' ++ [V.ref ta]).dropLast = us' := by simp
        have pt0 := Pt.lst (o := .lst us') hl
        refine ⟨fun σ2 H2 => ∃ y5, σ2 = [some (.ref a), some (.int mn), some v2, some (.ref l), some (.int n), some (.int d), y5, none] ∧ Same H H2 ∧ H2 l = some (.lst us') ∧ Tvs K H2 us' (st'.map dP) ∧ RV K H2 v2 r, ?_, ?_⟩
        · refine ⟨_, rfl, .inl ⟨rfl, _, SqL.of hl⟩, l, _, _, rfl, rfl, hl, hat, ?_⟩
          rw [hdl]
          refine ⟨ta, _, rfl, pt0.sq htS, rfl, _, _, rfl, _, _, rfl, ?_⟩
          exact ⟨rfl, _, rfl, sm.put hl0, upd_same, hu'.pt pt0, t2.pt pt0⟩
        · rintro σ2 H2 ⟨y5, rfl, sm, hl, hu, t2⟩
          refine ⟨_, rfl, _, rfl, _, rfl, d, v2, r, mn, rfl, t2, okr, fun H3 s3 => ⟨_, rfl, _, rfl, v2, r, rfl, t2.pt s3.pt, fun c ys H4 s4 hc hys => ⟨c, ys, rfl, hc, fun q2 nq2 => ⟨q2, rfl, ⟨_, .inl (.inl upd_same)⟩, ?_⟩⟩⟩⟩
          have pt4 : Pt H2 (upd H4 q2 (.tup ys.reverse)) := (s3.pt.trans s4.pt).trans (Pt.new nq2)
          have sm4 : Same H (upd H4 q2 (.tup ys.reverse)) := ((sm.trans s3).trans s4).trans (same_new nq2)
          refine for_tup (xs := ys.reverse) (fun j σ' H' => ∃ us y5, σ' = [some (.ref a), some (.int mn), some v2, some (.ref l), some (.int n), some (.int d), y5, none] ∧ Same H H' ∧ H' l = some (.lst us) ∧ Tvs K H' us ((st' ++ ((inner r).reverse.take j).flatMap (push (d + 1))).map dP) ∧ Pt (upd H4 q2 (.tup ys.reverse)) H')
            ⟨us', y5, rfl, sm4, same_new nq2 _ _ (s4 _ _ (s3 _ _ hl)), ?_, Pt.refl _⟩ ?_ ?_ ?_
          · rw [List.take_zero, List.flatMap_nil, List.append_nil]
            exact hu.pt pt4
          · rintro j σ' H' _ ⟨_, _, _, _, _, _, p5⟩
            exact p5.sq (.inl (.inl upd_same))
          · rintro j y σ' H' hy ⟨us, y5, rfl, sm5, hl5, hu5, p5⟩
            have hys5 := (hys.pt ((Pt.new (o := .tup ys.reverse) nq2).trans p5)).rev
            rw [← List.map_reverse] at hys5
            obtain ⟨cb, hcb, tc⟩ := hys5.nthB hy
            have hcm : cb ∈ inner r := List.mem_reverse.mp (List.mem_of_getElem? hcb)
            have hle := fm_le1 (f := push (d + 1)) hcb
            have hlt := len_tot ((inner r).reverse.flatMap (push (d + 1)))
            have hls := len_tot st'
            rw [List.length_append] at hle
            have hpl : (push (d + 1) cb).length = cb.length := by simp [push]
            have hul := hu5.len
            rw [List.length_map, List.length_append] at hul
            obtain ⟨ca, cx, rfl, hcS, hct⟩ := tc.tupI
            have hcl : cx.reverse.length = cb.length := by rw [List.length_reverse, hct.len, dB_eq, List.length_map]
            refine ⟨_, rfl, .inl ⟨rfl, _, SqL.of hl5⟩, ?_⟩
            refine lc_into ?_
            refine ⟨_, rfl, ca, cx, rfl, hcS, fun q3 nq3 => ⟨q3, rfl, ⟨_, .inl (.inl upd_same)⟩, ?_⟩⟩
            refine lc_overA (p := none) (as := push (d + 1) cb) (Rel := fun H e y => Tv K H y (dP e)) it_tup ?_ (fun c y H H' pt h => h.pt pt) (fun _ h => nomatch h) ?_ (fun H' _ pt => pt.sq (.inl (.inl upd_same))) ?_ ?_
            · rw [hcl, hpl]
            · rw [hcl]
              exact Nat.lt_of_le_of_lt (by omega : cb.length ≤ 1000) (by decide)
            · intro i x c hx hc H6 kq pt R k
              have hrv := (hct.pt ((Pt.new (o := .tup cx.reverse) nq3).trans pt)).rev
              rw [dB_eq, ← List.map_reverse, ← dB_eq] at hrv
              obtain ⟨r6, hr6, tr6⟩ := hrv.nthR hx
              have ec : c = (d + 1, r6) := by
                have := hc
                rw [push, List.getElem?_map, hr6] at this
                exact (Option.some.inj this).symm
              subst ec
              refine ⟨rfl, _, rfl, _, _, rfl, rfl, _, rfl, (by show 2 ≤ sizeLine; decide), fun t nt => k _ _ (Same.kq (same_new nt)) (Pt.new nt) (.tup (.inl (.inl upd_same)) (.cons (.int _) (.cons (tr6.pt (Pt.new nt)) .nil)))⟩
            · intro l6 zs H6 kq pt6 nl6 hl6 all6
              have hzl := all6.len
              rw [hpl] at hzl
              have sm6 : Same H' H6 := (same_new nq3).trans kq.same
              refine ⟨l, l6, us, zs, rfl, rfl, sm6 _ _ hl5, hl6, Nat.le_trans (by omega : us.length + zs.length ≤ 1000) (by decide), ?_⟩
              have ptl := Pt.lst (o := .lst (us ++ zs)) (sm6 _ _ hl5)
              refine ⟨us ++ zs, _, rfl, (sm5.trans sm6).put hl0, upd_same, ?_, (p5.trans sm6.pt).trans ptl⟩
              rw [fm_take hcb, ← List.append_assoc, List.map_append]
              exact Tvs.app ((hu5.pt sm6.pt).pt ptl) ((Tvs.ofAll2 all6).pt ptl)
          · rintro σ' H' ⟨us, y5, rfl, sm5, hl5, hu5, p5⟩
            have e : ys.reverse.length = (inner r).reverse.length := by rw [List.length_reverse, hys.len, List.length_map, List.length_reverse]
            rw [e, List.take_length] at hu5
            refine ⟨_, rfl, ?_⟩
            have hin : okS ((inner r).reverse.flatMap (push (d + 1))) := fun e he => by
              obtain ⟨c, hc, he⟩ := List.mem_flatMap.mp he
              exact okS_push (ok_inner okr (List.mem_reverse.mp hc)) e he
            have := tot_app st' ((inner r).reverse.flatMap (push (d + 1)))
            refine ⟨_, _, rfl, rfl, tot (st' ++ (inner r).reverse.flatMap (push (d + 1))), by omega, us, _, _, _, _, _, rfl, sm5, hl5, hu5, okS_app okst hin, rfl, by omega⟩
end
end K05
set_option Elab.async false
set_option linter.all false
set_option maxRecDepth 100000
set_option maxHeartbeats 4000000
/-! Things of any kind: which of them are names, rows, blocks. -/
namespace PM
open PySem PySem.Spec PyProof.Rows L2 ZX ZR
inductive Dt where
  | tup (xs : List Dt)
  | str (x : Str)
  | int (i : Int)
  | bl (b : Bool)
  | oth
def nameB (x : Str) : Bool := decide (1 ≤ x.length) && (decide (x.length ≤ 8) && (x.cps.toList.map fun c => decide (97 ≤ c) && decide (c ≤ 122)).all id)
theorem nameB_ok {x : Str} (h : nameB x = true) : NameOk x := by
  obtain ⟨h1, h⟩ := Bool.and_eq_true_iff.mp h
  obtain ⟨h2, h⟩ := Bool.and_eq_true_iff.mp h
  refine ⟨of_decide_eq_true h1, of_decide_eq_true h2, fun c hc => ?_⟩
  have := List.all_eq_true.mp h _ (List.mem_map.mpr ⟨c, hc, rfl⟩)
  obtain ⟨h3, h4⟩ := Bool.and_eq_true_iff.mp this
  exact ⟨of_decide_eq_true h3, of_decide_eq_true h4⟩
def nameD : Dt → Bool
  | .str x => nameB x
  | _ => false
def intD : Dt → Bool
  | .int _ => true
  | _ => false
def partsD : Dt → Bool
  | .tup ds => decide (ds.length ≤ 3) && (ds.map nameD).all id
  | _ => false
def blockD (d : Nat) : Dt → Bool
  | .tup ds => decide (ds.length ≤ 12) && decide (d ≤ 4)
  | _ => false
def on1 (f : Dt → Bool) : List Dt → Bool
  | [a] => f a
  | _ => false
def on2 (f : Dt → Dt → Bool) : List Dt → Bool
  | [a, b] => f a b
  | _ => false
def on3 (f : Dt → Dt → Dt → Bool) : List Dt → Bool
  | [a, b, c] => f a b c
  | _ => false
theorem on1_or : ∀ r : List Dt, (∃ a, r = [a]) ∨ (r.length ≠ 1 ∧ ∀ f, on1 f r = false)
  | [] => .inr ⟨by simp, fun _ => rfl⟩
  | [a] => .inl ⟨a, rfl⟩
  | _ :: _ :: _ => .inr ⟨by simp, fun _ => rfl⟩
theorem on2_or : ∀ r : List Dt, (∃ a b, r = [a, b]) ∨ (r.length ≠ 2 ∧ ∀ f, on2 f r = false)
  | [] => .inr ⟨by simp, fun _ => rfl⟩
  | [_] => .inr ⟨by simp, fun _ => rfl⟩
  | [a, b] => .inl ⟨a, b, rfl⟩
  | _ :: _ :: _ :: _ => .inr ⟨by simp, fun _ => rfl⟩
theorem on3_or : ∀ r : List Dt, (∃ a b c, r = [a, b, c]) ∨ (r.length ≠ 3 ∧ ∀ f, on3 f r = false)
  | [] => .inr ⟨by simp, fun _ => rfl⟩
  | [_] => .inr ⟨by simp, fun _ => rfl⟩
  | [_, _] => .inr ⟨by simp, fun _ => rfl⟩
  | [a, b, c] => .inl ⟨a, b, c, rfl⟩
  | _ :: _ :: _ :: _ :: _ => .inr ⟨by simp, fun _ => rfl⟩
/-- what stands behind the word -/
def restD (d : Nat) (w : Str) (r : List Dt) : Bool :=
  if w = "note" then on3 (fun a b c => nameD a && (nameD b && partsD c)) r
  else if w = "copy" then on2 (fun a b => nameD a && nameD b) r
  else if w = "give" then on2 (fun a b => nameD a && intD b) r
  else if w = "ask" then on1 nameD r
  else if w = "print" then on1 nameD r
  else if w = "either" then on2 (fun a b => blockD (d + 1) a && blockD (d + 1) b) r
  else if w = "again" then on1 (blockD (d + 1)) r
  else false
def rowD (d : Nat) : Dt → Bool
  | .tup (.str w :: r) => restD d w r
  | _ => false
/-- lists stay lists, all else stands -/
def Kd (H H' : Hp) : Prop := ∀ a o, H a = some o → H' a = some o ∨ ∃ xs ys, o = .lst xs ∧ H' a = some (.lst ys)
theorem Kd.refl (H : Hp) : Kd H H := fun _ _ h => .inl h
theorem Kd.trans {H H1 H2 : Hp} (a : Kd H H1) (b : Kd H1 H2) : Kd H H2 := fun c o h => by
  rcases a c o h with h1 | ⟨xs, ys, e, h1⟩
  · exact b c o h1
  · rcases b c _ h1 with h2 | ⟨xs', ys', _, h2⟩
    · exact .inr ⟨xs, ys, e, h2⟩
    · exact .inr ⟨xs, ys', e, h2⟩
theorem _root_.L2.Same.kd {H H' : Hp} (s : Same H H') : Kd H H' := fun a o h => .inl (s _ _ h)
theorem Kd.put {H : Hp} {a : Addr} {xs ys : List V} (h : H a = some (.lst xs)) : Kd H (upd H a (.lst ys)) := fun b o hb => by
  by_cases e : b = a
  · subst e
    rw [h] at hb
    cases hb
    exact .inr ⟨xs, ys, rfl, upd_same⟩
  · exact .inl (by rw [upd_ne e]; exact hb)
theorem Kd.pt {H H' : Hp} (k : Kd H H') : Pt H H' := fun b xs h => by
  rcases h with h | ⟨o, h⟩
  · rcases k _ _ h with h | ⟨_, _, e, _⟩
    · exact .inl h
    · cases e
  · rcases k _ _ h with h | ⟨_, _, e, _⟩
    · exact .inr ⟨o, h⟩
    · cases e
mutual
/-- things in the heap; C: the class of the one kind of objects -/
inductive Td (K : PySem.W.Frag) (C : Addr) (H : Hp) : V → Dt → Prop
  | str (x : Str) (h : x.length ≤ 100000) : Td K C H (.str x) (.str x)
  | int (i : Int) : Td K C H (.int i) (.int i)
  | bl (b : Bool) : Td K C H (.bl b) (.bl b)
  | tup {a : Addr} {xs : List V} {ds : List Dt} (h : SqT K H a xs) (t : Tds K C H xs ds) : Td K C H (.ref a) (.tup ds)
  | non : Td K C H .non .oth
  | lst {a : Addr} {xs : List V} (h : H a = some (.lst xs)) : Td K C H (.ref a) .oth
  | dic {a : Addr} {kvs : List (Key × V)} (h : H a = some (.dK kvs)) : Td K C H (.ref a) .oth
  | prog {a dx : Addr} {fs : List (Str × V)} (h : H a = some (.ins C dx fs)) : Td K C H (.ref a) .oth
inductive Tds (K : PySem.W.Frag) (C : Addr) (H : Hp) : List V → List Dt → Prop
  | nil : Tds K C H [] []
  | cons {v : V} {vs : List V} {d : Dt} {ds : List Dt} (h : Td K C H v d) (t : Tds K C H vs ds) : Tds K C H (v :: vs) (d :: ds)
end
section
variable {K : PySem.W.Frag} {C : Addr} {H H' : Hp}
mutual
theorem Td.kd (k : Kd H H') : ∀ {v : V} {d : Dt}, Td K C H v d → Td K C H' v d
  | _, _, .str x h => .str x h
  | _, _, .int i => .int i
  | _, _, .bl b => .bl b
  | _, _, .tup h t => .tup (k.pt.sq h) (Tds.kd k t)
  | _, _, .non => .non
  | _, _, .lst h => (k _ _ h).elim (fun h => .lst h) fun ⟨_, _, _, h⟩ => .lst h
  | _, _, .dic h => (k _ _ h).elim (fun h => .dic h) fun ⟨_, _, _, h⟩ => .lst h
  | _, _, .prog h => (k _ _ h).elim (fun h => .prog h) fun ⟨_, _, _, h⟩ => .lst h
theorem Tds.kd (k : Kd H H') : ∀ {vs : List V} {ds : List Dt}, Tds K C H vs ds → Tds K C H' vs ds
  | _, _, .nil => .nil
  | _, _, .cons h t => .cons (Td.kd k h) (Tds.kd k t)
end
theorem Tds.len : ∀ {vs : List V} {ds : List Dt}, Tds K C H vs ds → vs.length = ds.length
  | _, _, .nil => rfl
  | _, _, .cons _ t => congrArg Nat.succ (Tds.len t)
theorem Tds.app : ∀ {vs us : List V} {ds es : List Dt}, Tds K C H vs ds → Tds K C H us es → Tds K C H (vs ++ us) (ds ++ es)
  | _, _, _, _, .nil, t => t
  | _, _, _, _, .cons h t, u => .cons h (Tds.app t u)
theorem Tds.all2 : ∀ {vs : List V} {ds : List Dt}, Tds K C H vs ds → All2 (Td K C H) vs ds
  | _, _, .nil => .nil
  | _, _, .cons h t => .cons h (Tds.all2 t)
theorem Tds.of : ∀ {vs : List V} {ds : List Dt}, All2 (Td K C H) vs ds → Tds K C H vs ds
  | _, _, .nil => .nil
  | _, _, .cons h t => .cons h (Tds.of t)
theorem Tds.drop : ∀ {vs : List V} {ds : List Dt} (n : Nat), Tds K C H vs ds → Tds K C H (vs.drop n) (ds.drop n)
  | _, _, 0, h => h
  | _, _, _ + 1, .nil => .nil
  | _, _, n + 1, .cons _ t => Tds.drop n t
theorem Tds.take : ∀ {vs : List V} {ds : List Dt} (n : Nat), Tds K C H vs ds → Tds K C H (vs.take n) (ds.take n)
  | _, _, 0, _ => .nil
  | _, _, _ + 1, .nil => .nil
  | _, _, n + 1, .cons h t => .cons h (Tds.take n t)
theorem Tds.rev : ∀ {vs : List V} {ds : List Dt}, Tds K C H vs ds → Tds K C H vs.reverse ds.reverse
  | _, _, .nil => .nil
  | _, _, .cons h t => by
    rw [List.reverse_cons, List.reverse_cons]
    exact Tds.app (Tds.rev t) (.cons h .nil)
theorem Tds.get : ∀ {vs : List V} {ds : List Dt} {i : Nat} {v : V}, Tds K C H vs ds → vs[i]? = some v → ∃ d, ds[i]? = some d ∧ Td K C H v d
  | _, _, i, _, .nil, e => by simp at e
  | _, _, 0, _, .cons h t, e => by
    cases e
    exact ⟨_, rfl, h⟩
  | _, _, i + 1, _, .cons h t, e => Tds.get (i := i) t e
end
/-- the class of objects is none of tuples, numbers, texts -/
structure OthC (K : PySem.W.Frag) (C : Addr) : Prop where
  ty : ∀ {H : Hp} {a dx : Addr} {fs : List (Str × V)}, H a = some (.ins C dx fs) → TyX K H (.ref a) (.ref C)
  tu : PySem.W.mroIn K C (.type "tuple") = some false
  ki : PySem.W.mroIn K C (.type "int") = some false
  st : PySem.W.mroIn K C (.type "str") = some false
theorem one_no {K : PySem.W.Frag} {C : Addr} {x : String} (h : PySem.W.mroIn K C (.type x) = some false) (m : PySem.W.kitMeta x = true) : PySem.W.kitOne K (.ref C) (.type x) = some false := by
  unfold PySem.W.kitOne
  rw [if_neg (by simp)]
  show (if PySem.W.kitMeta x = true then PySem.W.mroIn K C (.type x) else none) = some false
  rw [if_pos m, h]
/-- a kind of its own -/
theorem Td.othI {K : PySem.W.Frag} {C : Addr} {H : Hp} {v : V} (O : OthC K C) (h : Td K C H v .oth) : ∃ t, TyX K H v t ∧ PySem.W.kitOne K t (.type "tuple") = some false ∧ PySem.W.kitOne K t (.type "int") = some false ∧ PySem.W.kitOne K t (.type "str") = some false := by
  cases h with
  | non => exact ⟨_, .base .non, rfl, rfl, rfl⟩
  | lst h => exact ⟨_, .base (.lst h), rfl, rfl, rfl⟩
  | dic h => exact ⟨_, .base (.dK h), rfl, rfl, rfl⟩
  | prog h => exact ⟨_, O.ty h, one_no O.tu (by decide +kernel), one_no O.ki (by decide +kernel), one_no O.st (by decide +kernel)⟩
/-- a tuple or none -/
theorem Td.tupOr {K : PySem.W.Frag} {C : Addr} {H : Hp} {v : V} {d : Dt} (O : OthC K C) (h : Td K C H v d) : (∃ a xs ds, v = .ref a ∧ d = .tup ds ∧ SqT K H a xs ∧ Tds K C H xs ds) ∨ ((∀ ds, d ≠ .tup ds) ∧ ∃ t, TyX K H v t ∧ PySem.W.kitOne K t (.type "tuple") = some false) := by
  cases d with
  | tup ds =>
    cases h with
    | tup h t => exact .inl ⟨_, _, _, rfl, rfl, h, t⟩
  | str x =>
    cases h
    exact .inr ⟨(fun _ e => by cases e), _, .base (.str x), rfl⟩
  | int i =>
    cases h
    exact .inr ⟨(fun _ e => by cases e), _, .base (.int i), rfl⟩
  | bl b =>
    cases h
    exact .inr ⟨(fun _ e => by cases e), _, .base (.bl b), rfl⟩
  | oth =>
    obtain ⟨t, h1, h2, _⟩ := h.othI O
    exact .inr ⟨(fun _ e => by cases e), t, h1, h2⟩
/-- a text or none -/
theorem Td.strOr {K : PySem.W.Frag} {C : Addr} {H : Hp} {v : V} {d : Dt} (O : OthC K C) (h : Td K C H v d) : (∃ x, v = .str x ∧ d = .str x ∧ x.length ≤ 100000) ∨ ((∀ x, d ≠ .str x) ∧ ∃ t, TyX K H v t ∧ PySem.W.kitOne K t (.type "str") = some false) := by
  cases d with
  | tup ds =>
    cases h with
    | tup h t => exact .inr ⟨(fun _ e => by cases e), _, tyT h, rfl⟩
  | str x =>
    cases h with
    | str _ h => exact .inl ⟨x, rfl, rfl, h⟩
  | int i =>
    cases h
    exact .inr ⟨(fun _ e => by cases e), _, .base (.int i), rfl⟩
  | bl b =>
    cases h
    exact .inr ⟨(fun _ e => by cases e), _, .base (.bl b), rfl⟩
  | oth =>
    obtain ⟨t, h1, _, _, h2⟩ := h.othI O
    exact .inr ⟨(fun _ e => by cases e), t, h1, h2⟩
theorem lt_one {c m : Nat} : decide (([c] : List Nat) < [m]) = decide (c < m) := by
  rw [decide_eq_decide]
  constructor
  · intro z
    cases z with
    | rel h => exact h
    | cons h => cases h
  · intro h
    exact .rel h
end PM
namespace K05
open PySem PySem.Spec PyProof.Rows L2 ZX PM ZR
theorem Td.num {K : PySem.W.Frag} {C : Addr} {H : Hp} {v : V} {d : Dt} (O : OthC K C) (h : Td K C H v d) : NumV K H v (intD d) := by
  cases d with
  | tup ds =>
    cases h with
    | tup h t => exact .oth (tyT h) rfl
  | str x =>
    cases h
    exact .oth (.base (.str x)) rfl
  | int i =>
    cases h
    exact .int i
  | bl b =>
    cases h
    exact .bl b
  | oth =>
    obtain ⟨t, h1, _, h2, _⟩ := h.othI O
    exact .oth h1 h2
end K05
set_option Elab.async false
set_option linter.all false
set_option maxRecDepth 100000
set_option maxHeartbeats 4000000
namespace K05
open PySem PySem.Spec PyProof.Rows L2 ZX PM ZR
def spNameD (K : PySem.W.Frag) (C : Addr) : Sp := fun vs H Q _ => ∃ (v : V) (d : Dt), vs = [v] ∧ Td K C H v d ∧ ∀ H', Same H H' → Q (.bl (nameD d)) H'
def spPartsD (K : PySem.W.Frag) (C : Addr) : Sp := fun vs H Q _ => ∃ (v : V) (d : Dt), vs = [v] ∧ Td K C H v d ∧ ∀ H', Same H H' → Q (.bl (partsD d)) H'
def spBlockD (K : PySem.W.Frag) (C : Addr) : Sp := fun vs H Q _ => ∃ (n : Nat) (v : V) (d : Dt), vs = [.int n, v] ∧ Td K C H v d ∧ Q (.bl (blockD n d)) H
def spRowD (K : PySem.W.Frag) (C : Addr) : Sp := fun vs H Q _ => ∃ (n : Nat) (v : V) (d : Dt), vs = [.int n, v, .int 0] ∧ Td K C H v d ∧ ∀ H', Same H H' → Q (.bl (rowD n d)) H'
theorem nameD_no {d : Dt} (h : ∀ x, d ≠ .str x) : nameD d = false := by
  cases d with
  | str x => exact absurd rfl (h x)
  | _ => rfl
theorem partsD_no {d : Dt} (h : ∀ x, d ≠ .tup x) : partsD d = false := by
  cases d with
  | tup x => exact absurd rfl (h x)
  | _ => rfl
theorem blockD_no {n : Nat} {d : Dt} (h : ∀ x, d ≠ .tup x) : blockD n d = false := by
  cases d with
  | tup x => exact absurd rfl (h x)
  | _ => rfl
theorem rowD_no {n : Nat} {d : Dt} (h : ∀ x, d ≠ .tup x) : rowD n d = false := by
  cases d with
  | tup x => exact absurd rfl (h x)
  | _ => rfl
section
variable {P : Program} {w : World} {K : PySem.W.Frag} {mg : Str → Option Value} {base : Heap} {C : Addr}
theorem ok_nameD {f : Addr} {fd : FuncData} (O : OthC K C) (F : FnP K "is_name" sIs_name f fd) (T : Bi mg) : FnOk P w K mg base CX0 1 f fd ["thing"] (spNameD K C) := by
  refine F.ok scIs_name (fun vs H Q E h => ?_) (fun cdv A outer s H vs Q E hr h => ?_)
  · obtain ⟨v, d, rfl, _⟩ := h
    rfl
  · obtain ⟨v, d, rfl, tv, k⟩ := h
    obtain ⟨t8, m8⟩ := T.m_MOST_LETTERS
    refine ⟨_, PSs.nox (pss_cons (ps_if (PW.pt (pw_or (pt_not (pt_val (pe_callB call_isi (by rfl) T.b_isinstance (by decide +kernel) (pa_cons (pv 0) (pa_cons (pe_bltn (v := .ty "str") (by rfl) T.b_str (by decide +kernel) rfl) pa_nil))))) (pw_or1 (pt_not (pt_chain op_le op_le pe_int (pe_callB call_len_str (by rfl) T.b_len (by decide +kernel) (pa_cons (pv 0) pa_nil)) (pe_glob (v := .int 8) rfl m8 ⟨_, rfl⟩)))))) (pss_one (ps_ret pe_bl)) pss_nil)
    (pss_one (ps_ret (pe_callB (cr_all rfl) (by rfl) T.b_all (by decide +kernel) (pa_cons (pe_lcS (own := [("sign", 1)]) (g := gName 1) (tt := tYes) (by rfl) scIs_name.nd (pi_str (pv 0)) (blkOk_by (N := ["thing", "sign"]) (sc := defScope sIs_name) (by decide +kernel)) (fun _ _ _ _ _ => (pg_name (i := 1) scIs_name.nd rfl (Or.inl rfl))) (fun _ _ _ _ _ => pts_nil) (fun _ _ _ _ _ => (pe_chain op_le_str op_le_str pe_str (pv 1) pe_str))) pa_nil))))), ?_⟩
    rcases tv.strOr O with ⟨x, rfl, rfl, hx⟩ | ⟨ns, t, ht, e⟩
    · have hz : x.length ≤ sizeLine := Nat.le_trans hx (by decide)
      refine ⟨_, rfl, _, _, _, _, true, rfl, .ty "str", .base (.str x), rfl, true, rfl, _, rfl, _, rfl, hz, _, _, rfl, rfl, _, rfl, ?_⟩
      by_cases h1 : 1 ≤ x.length
      · refine ifD (by omega) ⟨_, _, rfl, rfl, _, rfl, ?_⟩
        by_cases h8 : x.length ≤ 8
        · rw [decide_eq_true (show (x.length : Int) ≤ 8 by omega)]
          refine lc_into ?_
          refine ⟨_, rfl, _, rfl, ?_⟩
          refine lc_overA (p := none) (as := x.cps.toList) (Rel := fun _ c y => y = .bl (decide (97 ≤ c) && decide (c ≤ 122))) it_str ?_ (fun _ _ _ _ _ h => h) (fun _ h => nomatch h) ?_ (fun _ _ _ => trivial) ?_ ?_
          · rw [letters_len, Array.length_toList]
          · rw [letters_len]
            exact Nat.lt_of_le_of_lt h8 (by decide)
          · intro i z c hz hc H' _ _ R k
            have ez : z = .str ⟨#[c]⟩ := by
              rw [letters, List.getElem?_map, hc] at hz
              exact (Option.some.inj hz).symm
            subst ez
            have e1 : (!decide ((⟨#[c]⟩ : Str).cps.toList < (Str.ofString "a").cps.toList)) = decide (97 ≤ c) := by
              rw [show decide ((⟨#[c]⟩ : Str).cps.toList < (Str.ofString "a").cps.toList) = decide (c < 97) from lt_one]
              by_cases h : 97 ≤ c
              · rw [decide_eq_true h, decide_eq_false (by omega)]
                rfl
              · rw [decide_eq_false h, decide_eq_true (by omega)]
                rfl
            have e2 : (!decide ((Str.ofString "z").cps.toList < (⟨#[c]⟩ : Str).cps.toList)) = decide (c ≤ 122) := by
              rw [show decide ((Str.ofString "z").cps.toList < (⟨#[c]⟩ : Str).cps.toList) = decide (122 < c) from lt_one]
              by_cases h : c ≤ 122
              · rw [decide_eq_true h, decide_eq_false (by omega)]
                rfl
              · rw [decide_eq_false h, decide_eq_true (by omega)]
                rfl
            refine ⟨rfl, _, rfl, _, _, rfl, rfl, _, rfl, ?_⟩
            rw [e1]
            by_cases h : 97 ≤ c
            · refine ifD h ⟨_, _, rfl, rfl, ?_⟩
              rw [e2]
              exact k _ _ Kq.refl (Pt.refl _) (by rw [decide_eq_true h]; rfl)
            · exact ifDF h (k _ _ Kq.refl (Pt.refl _) (by rw [decide_eq_false h]; rfl))
          · intro D ys H' kq _ _ hD all
            have e := All2.map all
            subst e
            refine ⟨D, x.cps.toList.map fun c => decide (97 ≤ c) && decide (c ≤ 122), rfl, SqL.of (by rw [hD, List.map_map]; rfl), ?_⟩
            have hn : nameD (.str x) = (x.cps.toList.map fun c => decide (97 ≤ c) && decide (c ≤ 122)).all id := by
              show nameB x = _
              unfold nameB
              rw [decide_eq_true h1, decide_eq_true h8]
              rfl
            rw [← hn]
            exact k _ kq.same
        · rw [decide_eq_false (show ¬ (x.length : Int) ≤ 8 by omega)]
          have hn : nameD (.str x) = false := by
            show nameB x = _
            unfold nameB
            rw [decide_eq_true h1, decide_eq_false h8]
            rfl
          rw [hn] at k
          exact k _ fun _ _ h => h
      · refine ifDF (by omega) ?_
        have hn : nameD (.str x) = false := by
          show nameB x = _
          unfold nameB
          rw [decide_eq_false h1]
          rfl
        rw [hn] at k
        exact ⟨_, rfl, k _ fun _ _ h => h⟩
    · rw [nameD_no ns] at k
      exact ⟨_, rfl, _, _, _, _, false, rfl, .ty "str", ht, e, false, rfl, k _ fun _ _ h => h⟩
theorem ok_partsD {f : Addr} {fd : FuncData} (O : OthC K C) (F : FnP K "is_parts" sIs_parts f fd) (T : Bi mg) (C1 : Cal P w K mg base "is_name" 1 ["thing"] (spNameD K C)) : FnOk P w K mg base CX0 2 f fd ["thing"] (spPartsD K C) := by
  refine F.ok scIs_parts (fun vs H Q E h => ?_) (fun cdv A outer s H vs Q E hr h => ?_)
  · obtain ⟨v, d, rfl, _⟩ := h
    rfl
  · obtain ⟨v, d, rfl, tv, k⟩ := h
    obtain ⟨t3, m3⟩ := T.m_MOST_PARTS
    refine ⟨_, PSs.nox (pss_one (ps_ret (pe_and (pe_callB call_isi (by rfl) T.b_isinstance (by decide +kernel) (pa_cons (pv 0) (pa_cons (pe_bltn (v := .ty "tuple") (by rfl) T.b_tuple (by decide +kernel) rfl) pa_nil))) (pe_and (pe_cmpR op_le (pe_callB call_len_seq (by rfl) T.b_len (by decide +kernel) (pa_cons (pv 0) pa_nil)) (pe_glob (v := .int 3) rfl m3 ⟨_, rfl⟩) (nomark _)) (pe_one (pe_callB (cr_all rfl) (by rfl) T.b_all (by decide +kernel) (pa_cons (pe_lcS (own := [("part", 1)]) (g := gName 1) (tt := tYes) (by rfl) scIs_parts.nd (pi_tup (pv 0)) (blkOk_by (N := ["thing", "part"]) (sc := defScope sIs_parts) (by decide +kernel)) (fun _ _ _ _ _ => (pg_name (i := 1) scIs_parts.nd rfl (Or.inl rfl))) (fun _ _ _ _ _ => pts_nil) (fun _ _ _ _ _ => (pcal C1 hr rfl (pa_cons (pv 1) pa_nil)))) pa_nil))))))), ?_⟩
    rcases tv.tupOr O with ⟨a, xs, ds, rfl, rfl, hS, ht⟩ | ⟨nt, t, ht, e⟩
    · have hl := ht.len
      refine ⟨_, rfl, _, _, _, _, true, rfl, .ty "tuple", tyT hS, rfl, _, rfl, _, rfl, a, _, rfl, .inr hS, _, _, rfl, rfl, _, rfl, ?_⟩
      by_cases h3 : ds.length ≤ 3
      · refine ifD (by omega) ?_
        refine lc_into ?_
        refine ⟨_, rfl, _, rfl, ⟨_, hS⟩, ?_⟩
        refine lc_overA (p := none) (as := ds) (Rel := fun _ e y => y = .bl (nameD e)) it_tup hl.symm (fun _ _ _ _ _ h => h) (fun _ h => nomatch h) ?_ (fun H' _ pt => pt.sq hS) ?_ ?_
        · exact Nat.lt_of_le_of_lt (show xs.length ≤ 3 by omega) (by decide)
        · intro i z e hz he H' kq _ R k
          obtain ⟨e', he', tz⟩ := ht.get hz
          rw [he] at he'
          cases he'
          exact ⟨rfl, _, rfl, z, e, rfl, tz.kd (Kq.same kq).kd, fun H'' sm => k _ _ (Same.kq sm) (Same.pt sm) rfl⟩
        · intro D ys H' kq _ _ hD all
          have e := All2.map all
          subst e
          refine ⟨D, ds.map nameD, rfl, SqL.of (by rw [hD, List.map_map]; rfl), ?_⟩
          have hn : partsD (.tup ds) = (ds.map nameD).all id := by
            show (decide (ds.length ≤ 3) && _) = _
            rw [decide_eq_true h3]
            rfl
          rw [← hn]
          exact k _ kq.same
      · refine ifDF (by omega) ?_
        have hn : partsD (.tup ds) = false := by
          show (decide (ds.length ≤ 3) && _) = _
          rw [decide_eq_false h3]
          rfl
        rw [hn] at k
        exact k _ fun _ _ h => h
    · rw [partsD_no nt] at k
      exact ⟨_, rfl, _, _, _, _, false, rfl, .ty "tuple", ht, e, _, rfl, k _ fun _ _ h => h⟩
theorem ok_blockD {f : Addr} {fd : FuncData} (O : OthC K C) (F : FnP K "is_block" sIs_block f fd) (T : Bi mg) : FnOk P w K mg base CX0 1 f fd ["deep", "thing"] (spBlockD K C) := by
  refine F.ok scIs_block (fun vs H Q E h => ?_) (fun cdv A outer s H vs Q E hr h => ?_)
  · obtain ⟨n, v, d, rfl, _⟩ := h
    rfl
  · obtain ⟨n, v, d, rfl, tv, k⟩ := h
    obtain ⟨t12, m12⟩ := T.m_MOST_ROWS_IN_BLOCK
    obtain ⟨t4, m4⟩ := T.m_MOST_DEEP
    refine ⟨_, PSs.nox (pss_one (ps_ret (pe_and (pe_callB call_isi (by rfl) T.b_isinstance (by decide +kernel) (pa_cons (pv 1) (pa_cons (pe_bltn (v := .ty "tuple") (by rfl) T.b_tuple (by decide +kernel) rfl) pa_nil))) (pe_and (pe_cmpR op_le (pe_callB call_len_seq (by rfl) T.b_len (by decide +kernel) (pa_cons (pv 1) pa_nil)) (pe_glob (v := .int 12) rfl m12 ⟨_, rfl⟩) (nomark _)) (pe_one (pe_cmpR op_le (pv 0) (pe_glob (v := .int 4) rfl m4 ⟨_, rfl⟩) (nomark _))))))), ?_⟩
    rcases tv.tupOr O with ⟨a, xs, ds, rfl, rfl, hS, ht⟩ | ⟨nt, t, ht, e⟩
    · have hl := ht.len
      refine ⟨_, rfl, _, _, _, _, true, rfl, .ty "tuple", tyT hS, rfl, _, rfl, _, rfl, a, _, rfl, .inr hS, _, _, rfl, rfl, _, rfl, ?_⟩
      by_cases h : ds.length ≤ 12
      · refine ifD (by omega) ⟨_, rfl, _, _, rfl, rfl, ?_⟩
        have e : blockD n (.tup ds) = decide ((n : Int) ≤ 4) := by
          show (decide (ds.length ≤ 12) && decide (n ≤ 4)) = _
          rw [decide_eq_true h, Bool.true_and, decide_eq_decide]
          omega
        rw [e] at k
        exact k
      · refine ifDF (by omega) ?_
        have e : blockD n (.tup ds) = false := by
          show (decide (ds.length ≤ 12) && decide (n ≤ 4)) = _
          rw [decide_eq_false h]
          rfl
        rw [e] at k
        exact k
    · rw [blockD_no nt] at k
      exact ⟨_, rfl, _, _, _, _, false, rfl, .ty "tuple", ht, e, _, rfl, k⟩
end
end K05
set_option Elab.async false
set_option linter.all false
set_option maxRecDepth 100000
set_option maxHeartbeats 4000000
namespace K05
open PySem PySem.Spec PyProof.Rows L2 ZX PM ZR
theorem iteB {c : Bool} {A B : Prop} (t : c = true → A) (f : c = false → B) : if c = true then A else B := by
  cases c with
  | true => exact t rfl
  | false => exact f rfl
section
variable {K : PySem.W.Frag} {C : Addr} {H : Hp}
theorem Tds.one {vs : List V} {a : Dt} (h : Tds K C H vs [a]) : ∃ v, vs = [v] ∧ Td K C H v a := by
  cases h with
  | cons h t => cases t; exact ⟨_, rfl, h⟩
theorem Tds.two {vs : List V} {a b : Dt} (h : Tds K C H vs [a, b]) : ∃ v u, vs = [v, u] ∧ Td K C H v a ∧ Td K C H u b := by
  cases h with
  | cons h t =>
    obtain ⟨u, rfl, h2⟩ := Tds.one t
    exact ⟨_, _, rfl, h, h2⟩
theorem Tds.three {vs : List V} {a b c : Dt} (h : Tds K C H vs [a, b, c]) : ∃ v u z, vs = [v, u, z] ∧ Td K C H v a ∧ Td K C H u b ∧ Td K C H z c := by
  cases h with
  | cons h t =>
    obtain ⟨u, z, rfl, h2, h3⟩ := Tds.two t
    exact ⟨_, _, _, rfl, h, h2, h3⟩
end
theorem neW {a b : Str} (h : a ≠ b) : ¬ V.str a = V.str b := fun e => h (by cases e; rfl)
theorem lenN {n m : Nat} (h : n ≠ m) : ¬ V.int (n : Int) = V.int (m : Int) := fun e => h (by cases e; rfl)
section
variable {P : Program} {w : World} {K : PySem.W.Frag} {mg : Str → Option Value} {base : Heap} {C : Addr}
theorem ok_rowD {f : Addr} {fd : FuncData} (O : OthC K C) (F : FnPD K "is_row" sIs_row [.int 0] f fd) (T : Bi mg) (hA : Asking K mg) (C_is_integer : Cal P w K mg base "is_integer" 1 ["thing"] (spIsInt K)) (C_is_number_below : Cal P w K mg base "is_number_below" 2 ["limit", "thing"] (spBelow K)) (C_is_name : Cal P w K mg base "is_name" 1 ["thing"] (spNameD K C))
    (C_is_parts : Cal P w K mg base "is_parts" 2 ["thing"] (spPartsD K C)) (C_is_block : Cal P w K mg base "is_block" 1 ["deep", "thing"] (spBlockD K C)) : FnOk P w K mg base CX0 3 f fd ["deep", "thing", "many"] (spRowD K C) := by
  refine F.ok scIs_row (fun vs H Q E h => ?_) (fun cdv A outer s H vs Q E hr h => ?_)
  · obtain ⟨n, v, d, rfl, _⟩ := h
    rfl
  · obtain ⟨n, v, d, rfl, tv, k⟩ := h
    obtain ⟨aA, mA, hAs⟩ := hA
    have hr_is_integer := hr.mono (show 1 ≤ 2 by decide)
    have hr_is_name := hr_is_integer
    have hr_is_block := hr_is_integer
    have hr_is_parts := hr
    have hr_is_number_below := hr
    refine ⟨_, PSs.nox (pss_cons (ps_if (PW.pt (pw_or (pt_not (pt_val (pe_callB call_isi (by rfl) T.b_isinstance (by decide +kernel) (pa_cons (pv 1) (pa_cons (pe_bltn (v := .ty "tuple") (by rfl) T.b_tuple (by decide +kernel) rfl) pa_nil))))) (pw_or (pt_not (pt_truth (pv 1) (by intro _; rfl))) (pw_or1 (pt_not (pt_val (pe_callB call_isi (by rfl) T.b_isinstance (by decide +kernel) (pa_cons (pe_ix ix_tup (pv 1) pe_int (fun _ _ => rfl)) (pa_cons (pe_bltn (v := .ty "str") (by rfl) T.b_str (by decide +kernel) rfl) pa_nil))))))))) (pss_one (ps_ret pe_bl)) pss_nil)
    (pss_cut (ps_par (by rfl) scIs_row.nd (i := 3) (j := 4) rfl rfl (by decide) rfl rfl (pa_cons (pe_ix ix_tup (pv 1) pe_int (fun _ _ => rfl)) (pa_cons (pe_slice sl_tup (pv 1) (po_some pe_int) po_none) pa_nil)) (by rfl))
    (pss_cons (ps_if (pt_cmpR op_eq (pv 3) pe_str (nomark _)) (pss_one (ps_ret (pe_and (pe_cmpR op_eq (pe_callB call_len_seq (by rfl) T.b_len (by decide +kernel) (pa_cons (pv 4) pa_nil)) pe_int (nomark _)) (pe_and (pcal C_is_name hr_is_name rfl (pa_cons (pe_ix ix_tup (pv 4) pe_int (fun _ _ => rfl)) pa_nil)) (pe_and (pcal C_is_name hr_is_name rfl (pa_cons (pe_ix ix_tup (pv 4) pe_int (fun _ _ => rfl)) pa_nil)) (pe_one (pcal C_is_parts hr_is_parts rfl (pa_cons (pe_ix ix_tup (pv 4) pe_int (fun _ _ => rfl)) pa_nil)))))))) pss_nil)
    (pss_cons (ps_if (pt_cmpR op_eq (pv 3) pe_str (nomark _)) (pss_one (ps_ret (pe_and (pe_cmpR op_eq (pe_callB call_len_seq (by rfl) T.b_len (by decide +kernel) (pa_cons (pv 4) pa_nil)) pe_int (nomark _)) (pe_and (pcal C_is_name hr_is_name rfl (pa_cons (pe_ix ix_tup (pv 4) pe_int (fun _ _ => rfl)) pa_nil)) (pe_one (pcal C_is_name hr_is_name rfl (pa_cons (pe_ix ix_tup (pv 4) pe_int (fun _ _ => rfl)) pa_nil))))))) pss_nil)
    (pss_cons (ps_if (pt_cmpR op_eq (pv 3) pe_str (nomark _)) (pss_one (ps_ret (pe_and (pe_cmpR op_eq (pe_callB call_len_seq (by rfl) T.b_len (by decide +kernel) (pa_cons (pv 4) pa_nil)) pe_int (nomark _)) (pe_and (pcal C_is_name hr_is_name rfl (pa_cons (pe_ix ix_tup (pv 4) pe_int (fun _ _ => rfl)) pa_nil)) (pe_one (pcal C_is_integer hr_is_integer rfl (pa_cons (pe_ix ix_tup (pv 4) pe_int (fun _ _ => rfl)) pa_nil))))))) pss_nil)
    (pss_cons (ps_if (pt_cmpR op_in_seq (pv 3) (pe_glob (v := .ref _) rfl mA rfl) (by with_unfolding_all rfl)) (pss_one (ps_ret (pe_and (pe_cmpR op_eq (pe_callB call_len_seq (by rfl) T.b_len (by decide +kernel) (pa_cons (pv 4) pa_nil)) pe_int (nomark _)) (pe_one (pcal C_is_name hr_is_name rfl (pa_cons (pe_ix ix_tup (pv 4) pe_int (fun _ _ => rfl)) pa_nil)))))) pss_nil)
    (pss_cons (ps_if (pt_cmpR op_eq (pv 3) pe_str (nomark _)) (pss_one (ps_ret (pe_and (pe_cmpR op_eq (pe_callB call_len_seq (by rfl) T.b_len (by decide +kernel) (pa_cons (pv 4) pa_nil)) pe_int (nomark _)) (pe_one (pcal C_is_number_below hr_is_number_below rfl (pa_cons (pv 2) (pa_cons (pe_ix ix_tup (pv 4) pe_int (fun _ _ => rfl)) pa_nil))))))) pss_nil)
    (pss_cons (ps_if (pt_cmpR op_eq (pv 3) pe_str (nomark _)) (pss_one (ps_ret (pe_and (pe_cmpR op_eq (pe_callB call_len_seq (by rfl) T.b_len (by decide +kernel) (pa_cons (pv 4) pa_nil)) pe_int (nomark _)) (pe_and (pcal C_is_block hr_is_block rfl (pa_cons (pe_op op_add (pv 0) pe_int) (pa_cons (pe_ix ix_tup (pv 4) pe_int (fun _ _ => rfl)) pa_nil))) (pe_one (pcal C_is_block hr_is_block rfl (pa_cons (pe_op op_add (pv 0) pe_int) (pa_cons (pe_ix ix_tup (pv 4) pe_int (fun _ _ => rfl)) pa_nil)))))))) pss_nil)
    (pss_one (ps_ret (pe_and (pe_cmpR op_eq (pv 3) pe_str (nomark _)) (pe_and (pe_cmpR op_eq (pe_callB call_len_seq (by rfl) T.b_len (by decide +kernel) (pa_cons (pv 4) pa_nil)) pe_int (nomark _)) (pe_one (pcal C_is_block hr_is_block rfl (pa_cons (pe_op op_add (pv 0) pe_int) (pa_cons (pe_ix ix_tup (pv 4) pe_int (fun _ _ => rfl)) pa_nil)))))))))))))))), ?_⟩
    have k0 : rowD n d = false → Q (.bl false) H := fun e => by
      rw [e] at k
      exact k _ fun _ _ h => h
    rcases tv.tupOr O with ⟨a, xs, ds, rfl, rfl, hS, ht⟩ | ⟨nt, t, ht, e⟩
    rotate_left
    · exact ⟨_, rfl, _, _, _, _, false, rfl, .ty "tuple", ht, e, false, rfl, k0 (rowD_no nt)⟩
    cases ht with
    | nil => exact ⟨_, rfl, _, _, _, _, true, rfl, .ty "tuple", tyT hS, rfl, true, rfl, _, rfl, false, .inr (.inl ⟨_, hS, rfl⟩), k0 rfl⟩
    | @cons y0 tl d0 r t0 ht =>
    rcases t0.strOr O with ⟨wd, rfl, rfl, hwl⟩ | ⟨ns, t, hty, e⟩
    rotate_left
    · refine ⟨_, rfl, _, _, _, _, true, rfl, .ty "tuple", tyT hS, rfl, true, rfl, _, rfl, true, .inr (.inl ⟨_, hS, rfl⟩), _, rfl, _, _, _, _, rfl, rfl, hS, at0, _, _, _, _, false, rfl, .ty "str", hty, e, false, rfl, k0 ?_⟩
      cases d0 with
      | str x => exact absurd rfl (ns x)
      | _ => rfl
    refine ⟨_, rfl, _, _, _, _, true, rfl, .ty "tuple", tyT hS, rfl, true, rfl, _, rfl, true, .inr (.inl ⟨_, hS, rfl⟩), _, rfl, _, _, _, _, rfl, rfl, hS, at0, _, _, _, _, true, rfl, .ty "str", .base (.str _), rfl, true, rfl, ?_⟩
    refine ⟨fun σ' H' => ∃ p, σ' = [some (.int n), some (.ref a), some (.int 0), some (.str wd), some (.ref p)] ∧ Same H H' ∧ SqT K H' p tl ∧ Tds K C H' tl r, ?_, ?_⟩
    · refine ⟨_, rfl, _, _, _, _, rfl, rfl, hS, at0, _, rfl, 1, rfl, a, _, rfl, hS, cut1_ne, fun p np => ⟨_, _, rfl, p, rfl, same_new np, ?_, ht.kd (same_new np).kd⟩⟩
      rw [cut1]
      exact .inl (.inl upd_same)
    · rintro σ' H' ⟨p, rfl, sm, hp, ht⟩
      have k1 : ∀ H2, Same H' H2 → Q (.bl (restD n wd r)) H2 := fun H2 s2 => k H2 (sm.trans s2)
      have hl := ht.len
      clear k k0 hS t0
      by_cases w1 : wd = "note"
      · subst w1
        have er : restD n "note" r = on3 (fun a b c => nameD a && (nameD b && partsD c)) r := if_pos rfl
        rw [er] at k1
        refine ⟨_, rfl, rfl, _, rfl, ifD rfl ?_⟩
        rcases on3_or r with ⟨a1, a2, a3, rfl⟩ | ⟨hn, hf⟩
        · obtain ⟨v1, v2, v3, rfl, t1, t2, t3⟩ := Tds.three ht
          have k2 : ∀ H2, Same H' H2 → Q (.bl (nameD a1 && (nameD a2 && partsD a3))) H2 := k1
          refine ⟨_, rfl, p, _, rfl, .inr hp, rfl, _, rfl, ifD rfl ⟨_, rfl, _, _, _, _, rfl, rfl, hp, rfl, v1, a1, rfl, t1, fun H1 s1 => ⟨_, rfl, iteB (fun e1 => ?_) fun e1 => ?_⟩⟩⟩
          · refine ⟨_, rfl, _, _, _, _, rfl, rfl, (Same.pt s1).sq hp, rfl, v2, a2, rfl, t2.kd s1.kd, fun H2 s2 => ⟨_, rfl, iteB (fun e2 => ?_) fun e2 => ?_⟩⟩
            · rw [e1, e2, Bool.true_and, Bool.true_and] at k2
              exact ⟨_, rfl, _, _, _, _, rfl, rfl, ((Same.pt s1).trans (Same.pt s2)).sq hp, rfl, v3, a3, rfl, t3.kd (s1.trans s2).kd, fun H3 s3 => k2 H3 ((s1.trans s2).trans s3)⟩
            · rw [e1, e2] at k2
              exact k2 H2 (s1.trans s2)
          · rw [e1] at k2
            exact k2 H1 s1
        · rw [hf] at k1
          exact ⟨_, rfl, p, _, rfl, .inr hp, rfl, _, rfl, ifDF (lenN (m := 3) (by rw [hl]; exact hn)) (k1 _ fun _ _ h => h)⟩
      refine ⟨_, rfl, rfl, _, rfl, ifDF (neW w1) ?_⟩
      by_cases w2 : wd = "copy"
      · subst w2
        have er : restD n "copy" r = on2 (fun a b => nameD a && nameD b) r := by
          unfold restD
          rw [if_neg w1, if_pos rfl]
        rw [er] at k1
        refine ⟨_, rfl, rfl, _, rfl, ifD rfl ?_⟩
        rcases on2_or r with ⟨a1, a2, rfl⟩ | ⟨hn, hf⟩
        · obtain ⟨v1, v2, rfl, t1, t2⟩ := Tds.two ht
          have k2 : ∀ H2, Same H' H2 → Q (.bl (nameD a1 && nameD a2)) H2 := k1
          refine ⟨_, rfl, p, _, rfl, .inr hp, rfl, _, rfl, ifD rfl ⟨_, rfl, _, _, _, _, rfl, rfl, hp, rfl, v1, a1, rfl, t1, fun H1 s1 => ⟨_, rfl, iteB (fun e1 => ?_) fun e1 => ?_⟩⟩⟩
          · rw [e1, Bool.true_and] at k2
            exact ⟨_, rfl, _, _, _, _, rfl, rfl, (Same.pt s1).sq hp, rfl, v2, a2, rfl, t2.kd s1.kd, fun H2 s2 => k2 H2 (s1.trans s2)⟩
          · rw [e1] at k2
            exact k2 H1 s1
        · rw [hf] at k1
          exact ⟨_, rfl, p, _, rfl, .inr hp, rfl, _, rfl, ifDF (lenN (m := 2) (by rw [hl]; exact hn)) (k1 _ fun _ _ h => h)⟩
      refine ⟨_, rfl, rfl, _, rfl, ifDF (neW w2) ?_⟩
      by_cases w3 : wd = "give"
      · subst w3
        have er : restD n "give" r = on2 (fun a b => nameD a && intD b) r := by
          unfold restD
          rw [if_neg w1, if_neg w2, if_pos rfl]
        rw [er] at k1
        refine ⟨_, rfl, rfl, _, rfl, ifD rfl ?_⟩
        rcases on2_or r with ⟨a1, a2, rfl⟩ | ⟨hn, hf⟩
        · obtain ⟨v1, v2, rfl, t1, t2⟩ := Tds.two ht
          have k2 : ∀ H2, Same H' H2 → Q (.bl (nameD a1 && intD a2)) H2 := k1
          refine ⟨_, rfl, p, _, rfl, .inr hp, rfl, _, rfl, ifD rfl ⟨_, rfl, _, _, _, _, rfl, rfl, hp, rfl, v1, a1, rfl, t1, fun H1 s1 => ⟨_, rfl, iteB (fun e1 => ?_) fun e1 => ?_⟩⟩⟩
          · rw [e1, Bool.true_and] at k2
            exact ⟨_, rfl, _, _, _, _, rfl, rfl, (Same.pt s1).sq hp, rfl, v2, intD a2, rfl, Td.num O (t2.kd s1.kd), k2 H1 s1⟩
          · rw [e1] at k2
            exact k2 H1 s1
        · rw [hf] at k1
          exact ⟨_, rfl, p, _, rfl, .inr hp, rfl, _, rfl, ifDF (lenN (m := 2) (by rw [hl]; exact hn)) (k1 _ fun _ _ h => h)⟩
      refine ⟨_, rfl, rfl, _, rfl, ifDF (neW w3) ?_⟩
      by_cases w4 : wd = "ask"
      · subst w4
        have er : restD n "ask" r = on1 nameD r := by
          unfold restD
          rw [if_neg w1, if_neg w2, if_neg w3, if_pos rfl]
        rw [er] at k1
        refine ⟨_, rfl, aA, _, rfl, .inr (hAs _), rfl, rfl, _, rfl, ifB (show inV (V.str (Str.ofString "ask")) [V.str (Str.ofString "ask"), V.str (Str.ofString "print")] = true by decide +kernel) ?_⟩
        rcases on1_or r with ⟨a1, rfl⟩ | ⟨hn, hf⟩
        · obtain ⟨v1, rfl, t1⟩ := Tds.one ht
          exact ⟨_, rfl, p, _, rfl, .inr hp, rfl, _, rfl, ifD rfl ⟨_, rfl, _, _, _, _, rfl, rfl, hp, rfl, v1, a1, rfl, t1, fun H1 s1 => k1 H1 s1⟩⟩
        · rw [hf] at k1
          exact ⟨_, rfl, p, _, rfl, .inr hp, rfl, _, rfl, ifDF (lenN (m := 1) (by rw [hl]; exact hn)) (k1 _ fun _ _ h => h)⟩
      by_cases w5 : wd = "print"
      · subst w5
        have er : restD n "print" r = on1 nameD r := by
          unfold restD
          rw [if_neg w1, if_neg w2, if_neg w3, if_neg w4, if_pos rfl]
        rw [er] at k1
        refine ⟨_, rfl, aA, _, rfl, .inr (hAs _), rfl, rfl, _, rfl, ifB (show inV (V.str (Str.ofString "print")) [V.str (Str.ofString "ask"), V.str (Str.ofString "print")] = true by decide +kernel) ?_⟩
        rcases on1_or r with ⟨a1, rfl⟩ | ⟨hn, hf⟩
        · obtain ⟨v1, rfl, t1⟩ := Tds.one ht
          exact ⟨_, rfl, p, _, rfl, .inr hp, rfl, _, rfl, ifD rfl ⟨_, rfl, _, _, _, _, rfl, rfl, hp, rfl, v1, a1, rfl, t1, fun H1 s1 => k1 H1 s1⟩⟩
        · rw [hf] at k1
          exact ⟨_, rfl, p, _, rfl, .inr hp, rfl, _, rfl, ifDF (lenN (m := 1) (by rw [hl]; exact hn)) (k1 _ fun _ _ h => h)⟩
      have ei : inV (V.str wd) [V.str "ask", V.str "print"] = false := by
        show (Str.ofString "ask" == wd || (Str.ofString "print" == wd || false)) = _
        rw [Bool.or_false, BEq.comm, BEq.comm (a := Str.ofString "print")]
        show (decide (wd = "ask") || decide (wd = "print")) = false
        rw [decide_eq_false w4, decide_eq_false w5]
        rfl
      refine ⟨_, rfl, aA, _, rfl, .inr (hAs _), rfl, rfl, _, rfl, ifBF ei ?_⟩
      by_cases w8 : wd = "call"
      · subst w8
        have er : restD n "call" r = false := by
          unfold restD
          rw [if_neg w1, if_neg w2, if_neg w3, if_neg w4, if_neg w5, if_neg (by decide +kernel), if_neg (by decide +kernel)]
        rw [er] at k1
        refine ⟨_, rfl, rfl, _, rfl, ifD rfl ?_⟩
        rcases on1_or r with ⟨a1, rfl⟩ | ⟨hn, hf⟩
        · obtain ⟨v1, rfl, t1⟩ := Tds.one ht
          refine ⟨_, rfl, p, _, rfl, .inr hp, rfl, _, rfl, ifD rfl ⟨_, rfl, _, rfl, _, _, _, _, rfl, rfl, hp, rfl, 0, v1, rfl, ?_⟩⟩
          have hn := Td.num O t1
          cases hi : intD a1 with
          | false => rw [hi] at hn; exact .inr ⟨hn, k1 _ fun _ _ h => h⟩
          | true =>
            rw [hi] at hn
            cases hn with
            | int i =>
              refine .inl ⟨i, rfl, ?_⟩
              have e0 : (decide (0 ≤ i) && decide (i < 0)) = false := by
                by_cases h : 0 ≤ i
                · rw [decide_eq_false (show ¬ i < 0 by omega), Bool.and_false]
                · rw [decide_eq_false h, Bool.false_and]
              rw [e0]
              exact k1 _ fun _ _ h => h
        · exact ⟨_, rfl, p, _, rfl, .inr hp, rfl, _, rfl, ifDF (lenN (m := 1) (by rw [hl]; exact hn)) (k1 _ fun _ _ h => h)⟩
      refine ⟨_, rfl, rfl, _, rfl, ifDF (neW w8) ?_⟩
      by_cases w6 : wd = "either"
      · subst w6
        have er : restD n "either" r = on2 (fun a b => blockD (n + 1) a && blockD (n + 1) b) r := by
          unfold restD
          rw [if_neg w1, if_neg w2, if_neg w3, if_neg w4, if_neg w5, if_pos rfl]
        rw [er] at k1
        refine ⟨_, rfl, rfl, _, rfl, ifD rfl ?_⟩
        rcases on2_or r with ⟨a1, a2, rfl⟩ | ⟨hn, hf⟩
        · obtain ⟨v1, v2, rfl, t1, t2⟩ := Tds.two ht
          have k2 : Q (.bl (blockD (n + 1) a1 && blockD (n + 1) a2)) H' := k1 _ fun _ _ h => h
          refine ⟨_, rfl, p, _, rfl, .inr hp, rfl, _, rfl, ifD rfl ⟨_, rfl, _, _, rfl, rfl, _, rfl, _, _, _, _, rfl, rfl, hp, rfl, n + 1, v1, a1, rfl, t1, _, rfl, iteB (fun e1 => ?_) fun e1 => ?_⟩⟩
          · rw [e1, Bool.true_and] at k2
            exact ⟨_, rfl, _, _, rfl, rfl, _, rfl, _, _, _, _, rfl, rfl, hp, rfl, n + 1, v2, a2, rfl, t2, k2⟩
          · rw [e1] at k2
            exact k2
        · rw [hf] at k1
          exact ⟨_, rfl, p, _, rfl, .inr hp, rfl, _, rfl, ifDF (lenN (m := 2) (by rw [hl]; exact hn)) (k1 _ fun _ _ h => h)⟩
      refine ⟨_, rfl, rfl, _, rfl, ifDF (neW w6) ?_⟩
      by_cases w7 : wd = "again"
      · subst w7
        have er : restD n "again" r = on1 (blockD (n + 1)) r := by
          unfold restD
          rw [if_neg w1, if_neg w2, if_neg w3, if_neg w4, if_neg w5, if_neg w6, if_pos rfl]
        rw [er] at k1
        refine ⟨_, rfl, rfl, _, rfl, ifD rfl ?_⟩
        rcases on1_or r with ⟨a1, rfl⟩ | ⟨hn, hf⟩
        · obtain ⟨v1, rfl, t1⟩ := Tds.one ht
          exact ⟨_, rfl, p, _, rfl, .inr hp, rfl, _, rfl, ifD rfl ⟨_, rfl, _, _, rfl, rfl, _, rfl, _, _, _, _, rfl, rfl, hp, rfl, n + 1, v1, a1, rfl, t1, k1 _ fun _ _ h => h⟩⟩
        · rw [hf] at k1
          exact ⟨_, rfl, p, _, rfl, .inr hp, rfl, _, rfl, ifDF (lenN (m := 1) (by rw [hl]; exact hn)) (k1 _ fun _ _ h => h)⟩
      have er : restD n wd r = false := by
        unfold restD
        rw [if_neg w1, if_neg w2, if_neg w3, if_neg w4, if_neg w5, if_neg w6, if_neg w7]
      rw [er] at k1
      exact ⟨_, rfl, rfl, _, rfl, ifDF (neW w7) (k1 _ fun _ _ h => h)⟩
end
end K05
set_option Elab.async false
set_option linter.all false
set_option maxRecDepth 100000
set_option maxHeartbeats 4000000
namespace PM
open PySem PySem.Spec PyProof.Rows L2 ZX ZR
def blkD : Dt → List Dt
  | .tup ds => ds
  | _ => []
/-- the blocks within a thing that stands as a row -/
def innD : Dt → List (List Dt)
  | .tup (.str w :: r) => if w = "either" ∨ w = "again" then r.map blkD else []
  | _ => []
theorem innD_in {w : Str} {r : List Dt} (h : w = "either" ∨ w = "again") : innD (.tup (.str w :: r)) = r.map blkD := if_pos h
theorem innD_out {w : Str} {r : List Dt} (h : ¬ (w = "either" ∨ w = "again")) : innD (.tup (.str w :: r)) = [] := if_neg h
mutual
def szD : Dt → Nat
  | .tup ds => szL ds + 1
  | .str _ => 1
  | .int _ => 1
  | .bl _ => 1
  | .oth => 1
def szL : List Dt → Nat
  | [] => 0
  | d :: ds => szD d + szL ds
end
theorem szD_pos (d : Dt) : 1 ≤ szD d := by
  cases d <;> simp [szD]
theorem szL_app (a b : List Dt) : szL (a ++ b) = szL a + szL b := by
  induction a with
  | nil => simp [szL]
  | cons x a ih => rw [List.cons_append, szL, szL, ih]; omega
theorem szL_len : ∀ l : List Dt, l.length ≤ szL l
  | [] => Nat.le_refl _
  | d :: l => by
    have := szD_pos d
    have := szL_len l
    rw [szL, List.length_cons]
    omega
theorem szL_mem {d : Dt} : ∀ {l : List Dt}, d ∈ l → szD d ≤ szL l
  | x :: l, h => by
    rw [szL]
    rcases List.mem_cons.mp h with rfl | h
    · omega
    · have := szL_mem h
      omega
theorem szL_rev (l : List Dt) : szL l.reverse = szL l := by
  induction l with
  | nil => rfl
  | cons x l ih => rw [List.reverse_cons, szL_app, ih, szL, szL, szL]; omega
theorem blk_sz (d : Dt) : szL (blkD d) + 1 ≤ szD d := by
  cases d <;> simp [blkD, szD, szL]
theorem szL_blk : ∀ r : List Dt, szL (r.map blkD).flatten ≤ szL r
  | [] => Nat.le_refl _
  | d :: r => by
    have := blk_sz d
    have := szL_blk r
    rw [List.map_cons, List.flatten_cons, szL_app, szL]
    omega
theorem inn_sz (x : Dt) : szL (innD x).flatten + 1 ≤ szD x := by
  unfold innD
  split
  · rename_i w r
    split
    · have := szL_blk r
      rw [szD, szL, szD]
      omega
    · rw [szD, szL, szD]
      show 0 + 1 ≤ _
      omega
  · exact szD_pos _
/-- going through, rows ahead of those within: the place of the first that is wrong, or how many there are -/
def exB (g : Nat → Except Nat Nat) : Except Nat Nat → Except Nat Nat
  | .error p => .error p
  | .ok m => g m
def walkR : Nat → Nat → Dt → Nat → Except Nat Nat
  | 0, d, r, n => if rowD d r then .ok (n + 1) else .error n
  | f + 1, d, r, n => if rowD d r then (innD r).flatten.foldl (fun s x => exB (walkR f (d + 1) x) s) (.ok (n + 1)) else .error n
def stepW (s : Except Nat Nat) (e : Nat × Dt) : Except Nat Nat := exB (walkR (5 - e.1) e.1 e.2) s
def walkS (l : List (Nat × Dt)) (s : Except Nat Nat) : Except Nat Nat := l.foldl stepW s
theorem walkS_app (a b : List (Nat × Dt)) (s : Except Nat Nat) : walkS (a ++ b) s = walkS b (walkS a s) := List.foldl_append ..
theorem walkS_err (l : List (Nat × Dt)) (p : Nat) : walkS l (.error p) = .error p := by
  induction l with
  | nil => rfl
  | cons e l ih => exact ih
theorem walkR_inn {d : Nat} {r : Dt} {n : Nat} (hd : d ≤ 4) (h : rowD d r = true) : walkR (5 - d) d r n = walkS ((innD r).flatten.map fun x => (d + 1, x)) (.ok (n + 1)) := by
  have e : 5 - d = (4 - d) + 1 := by omega
  rw [e, walkR, if_pos h, walkS, List.foldl_map]
  have e2 : ∀ s x, stepW s (d + 1, x) = exB (walkR (4 - d) (d + 1) x) s := fun s x => by
    unfold stepW
    have : 5 - (d + 1) = 4 - d := by omega
    rw [this]
  simp only [e2]
theorem walkR_no {d f : Nat} {r : Dt} {n : Nat} (h : rowD d r = false) : walkR f d r n = .error n := by
  cases f <;> simp [walkR, h]
def pushD (d : Nat) (b : List Dt) : List (Nat × Dt) := b.reverse.map fun r => (d, r)
theorem push_rev (d : Nat) : ∀ L : List (List Dt), (L.reverse.flatMap (pushD d)).reverse = L.flatten.map fun r => (d, r)
  | [] => rfl
  | c :: L => by
    have ih := push_rev d L
    rw [List.reverse_cons, List.flatMap_append, List.reverse_append, ih, List.flatten_cons, List.map_append]
    congr 1
    simp [pushD, List.map_reverse]
def totD (st : List (Nat × Dt)) : Nat := (st.map fun e => szD e.2).sum
theorem totD_app (a b : List (Nat × Dt)) : totD (a ++ b) = totD a + totD b := by simp [totD]
theorem totD_map (d : Nat) : ∀ b : List Dt, totD (b.map fun r => (d, r)) = szL b
  | [] => rfl
  | r :: b => by
    have := totD_map d b
    rw [List.map_cons]
    show szD r + totD (b.map fun r => (d, r)) = _
    rw [this, szL]
theorem totD_push (d : Nat) (b : List Dt) : totD (pushD d b) = szL b := by
  rw [pushD, totD_map, szL_rev]
theorem totD_len : ∀ st : List (Nat × Dt), st.length ≤ totD st
  | [] => Nat.le_refl _
  | e :: st => by
    have h := totD_len st
    have p := szD_pos e.2
    show st.length + 1 ≤ szD e.2 + totD st
    omega
theorem totD_fm (d : Nat) (L : List (List Dt)) : totD (L.flatMap (pushD d)) = szL L.flatten := by
  induction L with
  | nil => rfl
  | cons c L ih => rw [List.flatMap_cons, totD_app, totD_push, ih, List.flatten_cons, szL_app]
theorem szL_frev : ∀ L : List (List Dt), szL L.reverse.flatten = szL L.flatten
  | [] => rfl
  | c :: L => by
    have ih := szL_frev L
    rw [List.reverse_cons, List.flatten_append, szL_app, ih]
    have e1 : [c].flatten = c := by simp
    have e2 : (c :: L).flatten = c ++ L.flatten := rfl
    rw [e1, e2, szL_app]
    omega
theorem blk_tup (L : List (List Dt)) : (L.map Dt.tup).map blkD = L := by
  induction L with
  | nil => rfl
  | cons c L ih => rw [List.map_cons, List.map_cons, ih]; rfl
theorem blockD_tup {n : Nat} {d : Dt} (h : blockD n d = true) : ∃ c, d = .tup c ∧ c.length ≤ 12 ∧ n ≤ 4 := by
  cases d with
  | tup c =>
    obtain ⟨h1, h2⟩ := Bool.and_eq_true_iff.mp (show (decide (c.length ≤ 12) && decide (n ≤ 4)) = true from h)
    exact ⟨c, rfl, of_decide_eq_true h1, of_decide_eq_true h2⟩
  | _ => cases h
/-- a right row: with blocks or without -/
theorem rowD_or {d : Nat} {x : Dt} (h : rowD d x = true) : ∃ w r, x = .tup (.str w :: r) ∧ restD d w r = true ∧ (((w = "either" ∨ w = "again") ∧ ∃ L : List (List Dt), r = L.map Dt.tup ∧ innD x = L ∧ d + 1 ≤ 4 ∧ ∀ c ∈ L, c.length ≤ 12) ∨ (w ≠ "either" ∧ w ≠ "again" ∧ innD x = [])) := by
  unfold rowD at h
  split at h
  · rename_i w r
    refine ⟨w, r, rfl, h, ?_⟩
    by_cases w6 : w = "either"
    · subst w6
      have er : restD d "either" r = on2 (fun a b => blockD (d + 1) a && blockD (d + 1) b) r := by
        unfold restD
        rw [if_neg (by decide +kernel), if_neg (by decide +kernel), if_neg (by decide +kernel), if_neg (by decide +kernel), if_neg (by decide +kernel), if_pos rfl]
      rw [er] at h
      rcases on2_or r with ⟨a, b, rfl⟩ | ⟨_, hf⟩
      · obtain ⟨h1, h2⟩ := Bool.and_eq_true_iff.mp (show (blockD (d + 1) a && blockD (d + 1) b) = true from h)
        obtain ⟨c1, rfl, l1, d4⟩ := blockD_tup h1
        obtain ⟨c2, rfl, l2, _⟩ := blockD_tup h2
        refine .inl ⟨.inl rfl, [c1, c2], rfl, ?_, d4, fun c hc => ?_⟩
        · exact innD_in (.inl rfl)
        · simp only [List.mem_cons, List.not_mem_nil, or_false] at hc
          rcases hc with rfl | rfl
          · exact l1
          · exact l2
      · rw [hf] at h
        cases h
    by_cases w7 : w = "again"
    · subst w7
      have er : restD d "again" r = on1 (blockD (d + 1)) r := by
        unfold restD
        rw [if_neg (by decide +kernel), if_neg (by decide +kernel), if_neg (by decide +kernel), if_neg (by decide +kernel), if_neg (by decide +kernel), if_neg (by decide +kernel), if_pos rfl]
      rw [er] at h
      rcases on1_or r with ⟨a, rfl⟩ | ⟨_, hf⟩
      · obtain ⟨c1, rfl, l1, d4⟩ := blockD_tup (show blockD (d + 1) a = true from h)
        refine .inl ⟨.inr rfl, [c1], rfl, ?_, d4, fun c hc => ?_⟩
        · exact innD_in (.inr rfl)
        · rw [List.mem_singleton.mp hc]
          exact l1
      · rw [hf] at h
        cases h
    refine .inr ⟨w6, w7, ?_⟩
    exact innD_out fun e => e.elim w6 w7
  · cases h
end PM
namespace K05
open PySem PySem.Spec PyProof.Rows L2 ZX PM ZR
def spBlocksOfD (K : PySem.W.Frag) (C : Addr) : Sp := fun vs H Q _ => ∃ (v : V) (x : Dt) (d : Nat), vs = [v] ∧ Td K C H v x ∧ rowD d x = true ∧ ∀ a ys H', Same H H' → SqT K H' a ys → Tds K C H' ys ((innD x).map Dt.tup) → Q (.ref a) H'
section
variable {P : Program} {w : World} {K : PySem.W.Frag} {mg : Str → Option Value} {base : Heap} {C : Addr}
theorem ok_blocksD {f : Addr} {fd : FuncData} (F : FnP K "blocks_of" sBlocks_of f fd) (T : Bi mg) : FnOk P w K mg base CX0 1 f fd ["row"] (spBlocksOfD K C) := by
  refine F.ok scBlocks_of (fun vs H Q E h => ?_) (fun cdv A outer s H vs Q E hr h => ?_)
  · obtain ⟨v, x, d, rfl, _⟩ := h
    rfl
  · obtain ⟨v, x, d, rfl, tv, hx, k⟩ := h
    refine ⟨_, PSs.nox (pss_one (ps_ret (pe_ifExp (pt_cmpR op_in_seq (pe_ix ix_tup (pv 0) pe_int (fun _ _ => rfl)) (pe_tup (pa_cons pe_str (pa_cons pe_str pa_nil))) (by with_unfolding_all rfl)) (pe_slice sl_tup (pv 0) (po_some pe_int) po_none) (pe_tup pa_nil)))), ?_⟩
    obtain ⟨wd, r, rfl, _, hc⟩ := rowD_or hx
    cases tv with
    | @tup a xs _ hS ht =>
    cases ht with
    | @cons y0 tl _ _ t0 ht =>
    cases t0 with
    | str _ hwl =>
    refine ⟨_, rfl, _, _, _, _, rfl, rfl, hS, at0, by decide, fun t nt => ?_⟩
    have pt := Pt.new (o := .tup [V.str "either", V.str "again"]) nt
    have ei : inV (V.str wd) [V.str "either", V.str "again"] = (decide (wd = "either") || decide (wd = "again")) := by
      show (Str.ofString "either" == wd || (Str.ofString "again" == wd || false)) = _
      rw [Bool.or_false, BEq.comm, BEq.comm (a := Str.ofString "again")]
      rfl
    refine ⟨_, _, rfl, .inr (.inl (.inl upd_same)), rfl, rfl, _, rfl, ?_⟩
    show if inV (V.str wd) [V.str "either", V.str "again"] = true then _ else _
    rcases hc with ⟨hw, L, rfl, hL, _⟩ | ⟨h1, h2, hL⟩
    · refine ifB (by rw [ei]; rcases hw with e | e <;> simp [e]) ⟨_, rfl, 1, rfl, a, _, rfl, pt.sq hS, cut1_ne, fun p np => ?_⟩
      refine k p tl _ ((same_new nt).trans (same_new np)) ?_ ?_
      · rw [cut1]
        exact .inl (.inl upd_same)
      · rw [hL]
        exact ht.kd ((same_new nt).trans (same_new np)).kd
    · refine ifBF (by rw [ei, decide_eq_false h1, decide_eq_false h2]; rfl) ⟨by decide, fun p np => k p [] _ ((same_new nt).trans (same_new np)) (.inl (.inl upd_same)) ?_⟩
      rw [hL]
      exact .nil
end
end K05
set_option Elab.async false
set_option linter.all false
set_option maxRecDepth 100000
set_option maxHeartbeats 4000000
namespace K05
open PySem PySem.Spec PyProof.Rows L2 ZX PM ZR
def resV : Except Nat Nat → V
  | .error p => .int p
  | .ok _ => .non
/-- a pair of a depth and a thing -/
def PairD (K : PySem.W.Frag) (C : Addr) (H : Hp) (e : Nat × Dt) (u : V) : Prop := ∃ t v, u = .ref t ∧ SqT K H t [.int (e.1 : Nat), v] ∧ Td K C H v e.2
theorem PairD.kd {K : PySem.W.Frag} {C : Addr} {H H' : Hp} {u : V} {e : Nat × Dt} (k : Kd H H') (h : PairD K C H e u) : PairD K C H' e u := by
  obtain ⟨t, v, rfl, hS, tv⟩ := h
  exact ⟨t, v, rfl, k.pt.sq hS, tv.kd k⟩
/-- the same, told of an elder heap -/
def PairA (K : PySem.W.Frag) (C : Addr) (H0 H : Hp) (e : Nat × Dt) (u : V) : Prop := ∃ t v, u = .ref t ∧ SqT K H t [.int (e.1 : Nat), v] ∧ Td K C H0 v e.2
theorem PairA.pt {K : PySem.W.Frag} {C : Addr} {H0 H H' : Hp} {u : V} {e : Nat × Dt} (p : Pt H H') (h : PairA K C H0 H e u) : PairA K C H0 H' e u := by
  obtain ⟨t, v, rfl, hS, tv⟩ := h
  exact ⟨t, v, rfl, p.sq hS, tv⟩
theorem PairA.kd {K : PySem.W.Frag} {C : Addr} {H0 H : Hp} {u : V} {e : Nat × Dt} (k : Kd H0 H) (h : PairA K C H0 H e u) : PairD K C H e u := by
  obtain ⟨t, v, rfl, hS, tv⟩ := h
  exact ⟨t, v, rfl, hS, tv.kd k⟩
theorem All2.snocL {α β : Type} {R : α → β → Prop} : ∀ {as : List α} {a : α} {bs : List β}, All2 R (as ++ [a]) bs → ∃ cs c, bs = cs ++ [c] ∧ All2 R as cs ∧ R a c
  | [], _, _, .cons h .nil => ⟨[], _, rfl, .nil, h⟩
  | _ :: _, _, _, .cons h t => by
    obtain ⟨cs, c, rfl, h1, h2⟩ := All2.snocL t
    exact ⟨_ :: cs, c, rfl, .cons h h1, h2⟩
theorem All2.app {α β : Type} {R : α → β → Prop} : ∀ {as : List α} {bs : List β} {cs : List α} {ds : List β}, All2 R as bs → All2 R cs ds → All2 R (as ++ cs) (bs ++ ds)
  | _, _, _, _, .nil, t => t
  | _, _, _, _, .cons h t, u => .cons h (All2.app t u)
/-- what this goes through -/
def spFormlessD (K : PySem.W.Frag) (C : Addr) : Sp := fun vs H Q _ => ∃ (v : V) (b : List Dt), vs = [v, .int 0] ∧ Td K C H v (.tup b) ∧ szL b ≤ 1000000 ∧ ∀ H', Same H H' → Q (resV (walkS (b.map fun r => (1, r)) (.ok 0))) H'
def ForD (K : PySem.W.Frag) (C : Addr) (v : V) (l : Addr) (H0 : Hp) (W : Except Nat Nat) (m : Nat) (σ : L2.St) (H : Hp) : Prop := ∃ (us : List V) (st : List (Nat × Dt)) (n : Nat) (y1 y4 y5 : Option V), σ = [some v, some (.int 0), y1, some (.ref l), some (.int (n : Nat)), y4, y5, none] ∧
  Same H0 H ∧ H l = some (.lst us) ∧ All2 (PairD K C H) st us ∧ (∀ e ∈ st, e.1 ≤ 4) ∧ walkS st.reverse (.ok n) = W ∧ totD st = m ∧ m ≤ 1000000
section
variable {P : Program} {w : World} {K : PySem.W.Frag} {mg : Str → Option Value} {base : Heap} {C : Addr}
theorem ok_formlessD {f : Addr} {fd : FuncData} (F : FnP K "formless_place" sFormless_place f fd) (T : Bi mg) (C_is_row : Cal P w K mg base "is_row" 3 ["deep", "thing", "many"] (spRowD K C)) (C_blocks_of : Cal P w K mg base "blocks_of" 1 ["row"] (spBlocksOfD K C)) : FnOk P w K mg base CX0 4 f fd ["block", "many"] (spFormlessD K C) := by
  refine F.ok scFormless_place (fun vs H Q E h => ?_) (fun cdv A outer s H vs Q E hr h => ?_)
  · obtain ⟨v, r, rfl, _⟩ := h
    rfl
  · obtain ⟨v, b, rfl, tv, hn, k⟩ := h
    cases tv with
    | @tup a xs _ hS ht =>
    have hr_blocks_of := hr.mono (show 1 ≤ 3 by decide)
    have hr_is_row := hr
    refine ⟨_, PSs.nox (pss_cons (ps_setLcS (i := 3) (own := [("row", 2)]) (g := gName 2) (tt := tYes) rfl scFormless_place.nd rfl rfl (sw_true rfl rfl rfl (by decide +kernel)) (pi_tup (ZR.pe_revT (pv 0))) (blkOk_by (N := ["block", "many", "row", "ahead", "place", "deep", "inner", "each"]) (sc := defScope sFormless_place) (by decide +kernel)) (fun _ _ _ _ _ => (pg_name (i := 2) scFormless_place.nd rfl (Or.inl rfl))) (fun _ _ _ _ _ => pts_nil) (fun _ _ _ _ _ => (pe_tup (pa_cons pe_int (pa_cons (pv 2) pa_nil)))))
    (pss_cons (ps_set (i := 4) scFormless_place.nd rfl (Or.inl rfl) pe_int)
    (pss_cons (ps_while PassesOwn.never (pt_truth (pv 3) (by intro _; rfl)) (pss_cut (ps_asg (pe_bm0 PySem.F.plainAttrs_list PySem.F.slot_list_pop PySem.F.type_list_pop mt_pop (pv 3)) (pg_tup rfl (pgs_cons (pg_name (i := 5) scFormless_place.nd rfl (Or.inr rfl)) (pgs_cons (pg_name (i := 2) scFormless_place.nd rfl (Or.inl rfl)) pgs_nil))))
      (pss_cons (ps_if (pt_not (pt_val (pcal C_is_row hr_is_row rfl (pa_cons (pv 5) (pa_cons (pv 2) (pa_cons (pv 1) pa_nil)))))) (pss_one (ps_ret (pv 4))) pss_nil)
      (pss_cons (ps_for PassesOwn.never rfl (pi_tup (ZR.pe_revT (pcal C_blocks_of hr_blocks_of rfl (pa_cons (pv 2) pa_nil)))) (pg_name (i := 6) scFormless_place.nd rfl (Or.inl rfl)) (pss_one (ps_expr (pe_bm PySem.F.plainAttrs_list PySem.F.slot_list_extend PySem.F.type_list_extend mt_extend (pv 3) (pa_cons (pe_lcS (own := [("each", 7)]) (g := gName 7) (tt := tYes) (by rfl) scFormless_place.nd (pi_tup (ZR.pe_revT (pv 6))) (blkOk_by (N := ["block", "many", "row", "ahead", "place", "deep", "inner", "each"]) (sc := defScope sFormless_place) (by decide +kernel)) (fun _ _ _ _ _ => (pg_name (i := 7) scFormless_place.nd rfl (Or.inl rfl))) (fun _ _ _ _ _ => pts_nil) (fun _ _ _ _ _ => (pe_tup (pa_cons (pe_op op_add (pv 5) pe_int) (pa_cons (pv 7) pa_nil))))) pa_nil)))))
      (pss_one (ps_aug (i := 4) scFormless_place.nd rfl (Or.inl rfl) pe_int ip_add))))))
    (pss_one (ps_ret pe_non))))), ?_⟩
    refine lc_into ?_
    refine ⟨_, rfl, a, xs, rfl, hS, fun q nq => ⟨q, rfl, ⟨_, .inl (.inl upd_same)⟩, ?_⟩⟩
    have hx : xs.reverse.length = b.length := by rw [List.length_reverse, ht.len]
    have hbl := szL_len b
    have hpl : (pushD 1 b).length = b.length := by simp [pushD]
    refine lc_overA (p := none) (as := pushD 1 b) (Rel := fun H' e y => PairA K C H H' e y) it_tup (by rw [hx, hpl]) (fun c y H1 H2 pt h => h.pt pt) (fun _ h => nomatch h) (by rw [hx]; exact Nat.lt_of_le_of_lt (show b.length ≤ 1000000 by omega) (by decide)) (fun H' _ pt => pt.sq (.inl (.inl upd_same))) ?_ ?_
    · intro i x c hx hc H' kq pt R k
      obtain ⟨r, hr, tr⟩ := Tds.get (Tds.rev ht) hx
      have ec : c = (1, r) := by
        rw [pushD, List.getElem?_map, hr] at hc
        exact (Option.some.inj hc).symm
      subst ec
      exact ⟨rfl, _, rfl, (by show 2 ≤ sizeLine; decide), fun t nt => k _ _ (Same.kq (same_new nt)) (Pt.new nt) ⟨t, x, rfl, .inl (.inl upd_same), tr⟩⟩
    · intro l us H' kq _ nl hl all
      have hl0 : H l = none := (same_new nq).free nl
      have sm0 : Same H H' := (same_new nq).trans kq.same
      refine ⟨fun m σ' H' => ForD K C (.ref a) l H (walkS (b.map fun r => (1, r)) (.ok 0)) m σ' H', ⟨_, us, pushD 1 b, 0, none, none, none, rfl, sm0, hl, all.imp fun _ _ h => h.kd sm0.kd, fun e he => ?_, ?_, rfl, by rw [totD_push]; exact hn⟩, ?_⟩
      · obtain ⟨r, _, rfl⟩ := List.mem_map.mp he
        show 1 ≤ 4
        decide
      · congr 1
        simp [pushD, List.map_reverse]
      rintro m σ' H' ⟨us, st, n, y1, y4, y5, rfl, sm, hl, hu, hok, hW, rfl, hm⟩
      have hul := hu.len
      rcases snoc_or st with rfl | ⟨st', ⟨d, r⟩, rfl⟩
      · cases hu
        rw [← hW] at k
        exact ⟨_, rfl, false, .inl ⟨_, SqL.of hl, rfl⟩, k H' sm⟩
      · obtain ⟨us', u, rfl, hu', tu⟩ := All2.snocL hu
        refine ⟨_, rfl, true, .inl ⟨_, SqL.of hl, by simp⟩, fun σ2 H2 => ∃ m', m' < totD (st' ++ [(d, r)]) ∧ ForD K C (.ref a) l H (walkS (b.map fun r => (1, r)) (.ok 0)) m' σ2 H2, fun _ _ h => h, ?_⟩
        obtain ⟨ta, v2, rfl, htS, t2⟩ := tu
        have d4 : d ≤ 4 := hok (d, r) (List.mem_append_right _ List.mem_cons_self)
        have okst : ∀ e ∈ st', e.1 ≤ 4 := fun e he => hok e (List.mem_append_left _ he)
        have htot : totD (st' ++ [(d, r)]) = totD st' + szD r := by
          rw [totD_app]
          show _ + (szD r + 0) = _
          omega
        have hinn := inn_sz r
        rw [List.reverse_append, List.reverse_singleton] at hW
        have hW : walkS st'.reverse (walkR (5 - d) d r n) = walkS (b.map fun r => (1, r)) (.ok 0) := hW
        have hat : (us' ++ [V.ref ta])[(us' ++ [V.ref ta]).length - 1]? = some (V.ref ta) := by simp
        have hdl : (us' ++ [V.ref ta]).dropLast = us' := by simp
        have kd0 := Kd.put (ys := us') hl
        refine ⟨fun σ2 H2 => ∃ y5, σ2 = [some (.ref a), some (.int 0), some v2, some (.ref l), some (.int (n : Nat)), some (.int (d : Nat)), y5, none] ∧ Same H H2 ∧ H2 l = some (.lst us') ∧ All2 (PairD K C H2) st' us' ∧ Td K C H2 v2 r, ?_, ?_⟩
        · refine ⟨_, rfl, .inl ⟨rfl, _, SqL.of hl⟩, l, _, _, rfl, rfl, hl, hat, ?_⟩
          rw [hdl]
          refine ⟨ta, _, rfl, kd0.pt.sq htS, rfl, _, _, rfl, _, _, rfl, ?_⟩
          exact ⟨rfl, _, rfl, sm.put hl0, upd_same, hu'.imp fun _ _ h => h.kd kd0, t2.kd kd0⟩
        · rintro σ2 H2 ⟨y5, rfl, sm, hl, hu, t2⟩
          refine ⟨_, rfl, _, rfl, _, rfl, d, v2, r, rfl, t2, fun H3 s3 => ⟨_, rfl, ?_⟩⟩
          cases hrd : rowD d r with
          | false =>
            rw [walkR_no hrd, walkS_err] at hW
            rw [← hW] at k
            exact ⟨_, rfl, k H3 (sm.trans s3)⟩
          | true =>
          obtain ⟨wd, rr, _, _, hcase⟩ := rowD_or hrd
          have hd5 : (innD r).flatten ≠ [] → d + 1 ≤ 4 := fun hne => by
            rcases hcase with ⟨_, L, _, _, h5, _⟩ | ⟨_, _, e⟩
            · exact h5
            · rw [e] at hne
              exact absurd rfl hne
          refine ⟨_, rfl, v2, r, d, rfl, t2.kd s3.kd, hrd, fun c ys H4 s4 hc hys => ⟨c, ys, rfl, hc, fun q2 nq2 => ⟨q2, rfl, ⟨_, .inl (.inl upd_same)⟩, ?_⟩⟩⟩
          have s24 : Same H2 (upd H4 q2 (.tup ys.reverse)) := (s3.trans s4).trans (same_new nq2)
          have sm4 : Same H (upd H4 q2 (.tup ys.reverse)) := sm.trans s24
          have hys4 := Tds.rev (hys.kd (same_new (o := .tup ys.reverse) nq2).kd)
          rw [← List.map_reverse] at hys4
          refine for_tup (xs := ys.reverse) (fun j σ' H' => ∃ us y5, σ' = [some (.ref a), some (.int 0), some v2, some (.ref l), some (.int (n : Nat)), some (.int (d : Nat)), y5, none] ∧ Same H H' ∧ H' l = some (.lst us) ∧ All2 (PairD K C H') (st' ++ ((innD r).reverse.take j).flatMap (pushD (d + 1))) us ∧ Kd (upd H4 q2 (.tup ys.reverse)) H')
            ⟨us', y5, rfl, sm4, s24 _ _ hl, ?_, Kd.refl _⟩ ?_ ?_ ?_
          · rw [List.take_zero, List.flatMap_nil, List.append_nil]
            exact hu.imp fun _ _ h => h.kd s24.kd
          · rintro j σ' H' _ ⟨_, _, _, _, _, _, p5⟩
            exact p5.pt.sq (.inl (.inl upd_same))
          · rintro j y σ' H' hy ⟨us, y5, rfl, sm5, hl5, hu5, p5⟩
            obtain ⟨cb0, hcb0, tc⟩ := Tds.get (hys4.kd p5) hy
            obtain ⟨cb, hcb, rfl⟩ : ∃ c, (innD r).reverse[j]? = some c ∧ Dt.tup c = cb0 := by
              rw [List.getElem?_map] at hcb0
              cases h : (innD r).reverse[j]? with
              | none => rw [h] at hcb0; cases hcb0
              | some c => rw [h] at hcb0; exact ⟨c, rfl, Option.some.inj hcb0⟩
            have hle := fm_le1 (f := pushD (d + 1)) hcb
            have hlt := totD_len ((innD r).reverse.flatMap (pushD (d + 1)))
            rw [totD_fm, szL_frev] at hlt
            have hls := totD_len st'
            rw [List.length_append] at hle
            have hpl : (pushD (d + 1) cb).length = cb.length := by simp [pushD]
            have hul := hu5.len
            rw [List.length_append] at hul
            cases tc with
            | @tup ca cx _ hcS hct =>
            have hcl : cx.reverse.length = cb.length := by rw [List.length_reverse, hct.len]
            refine ⟨_, rfl, .inl ⟨rfl, _, SqL.of hl5⟩, ?_⟩
            refine lc_into ?_
            refine ⟨_, rfl, ca, cx, rfl, hcS, fun q3 nq3 => ⟨q3, rfl, ⟨_, .inl (.inl upd_same)⟩, ?_⟩⟩
            refine lc_overA (p := none) (as := pushD (d + 1) cb) (Rel := fun H6 e y => PairA K C H' H6 e y) it_tup (by rw [hcl, hpl]) (fun c y H1 H2 pt h => h.pt pt) (fun _ h => nomatch h) (by rw [hcl]; exact Nat.lt_of_le_of_lt (by omega : cb.length ≤ 1000000) (by decide)) (fun H' _ pt => pt.sq (.inl (.inl upd_same))) ?_ ?_
            · intro i x c hx hc H6 kq pt R k
              obtain ⟨r6, hr6, tr6⟩ := Tds.get (Tds.rev hct) hx
              have ec : c = (d + 1, r6) := by
                rw [pushD, List.getElem?_map, hr6] at hc
                exact (Option.some.inj hc).symm
              subst ec
              exact ⟨rfl, _, rfl, _, _, rfl, rfl, _, rfl, (by show 2 ≤ sizeLine; decide), fun t nt => k _ _ (Same.kq (same_new nt)) (Pt.new nt) ⟨t, x, rfl, .inl (.inl upd_same), tr6⟩⟩
            · intro l6 zs H6 kq pt6 nl6 hl6 all6
              have hzl := all6.len
              rw [hpl] at hzl
              have sm6 : Same H' H6 := (same_new nq3).trans kq.same
              refine ⟨l, l6, us, zs, rfl, rfl, sm6 _ _ hl5, hl6, Nat.le_trans (by omega : us.length + zs.length ≤ 1000000) (by decide), ?_⟩
              have kdl := Kd.put (ys := us ++ zs) (sm6 _ _ hl5)
              refine ⟨us ++ zs, _, rfl, (sm5.trans sm6).put hl0, upd_same, ?_, (p5.trans sm6.kd).trans kdl⟩
              rw [fm_take hcb, ← List.append_assoc]
              exact All2.app (hu5.imp fun _ _ h => h.kd (sm6.kd.trans kdl)) (all6.imp fun _ _ h => (h.kd sm6.kd).kd kdl)
          · rintro σ' H' ⟨us, y5, rfl, sm5, hl5, hu5, p5⟩
            have e : ys.reverse.length = (innD r).reverse.length := by rw [List.length_reverse, hys.len, List.length_map, List.length_reverse]
            rw [e, List.take_length] at hu5
            refine ⟨_, rfl, ?_⟩
            have := totD_app st' ((innD r).reverse.flatMap (pushD (d + 1)))
            have htf := totD_fm (d + 1) (innD r).reverse
            rw [szL_frev] at htf
            refine ⟨_, _, rfl, rfl, totD (st' ++ (innD r).reverse.flatMap (pushD (d + 1))), by omega, us, _, n + 1, _, _, _, rfl, sm5, hl5, hu5, fun e he => ?_, ?_, rfl, by omega⟩
            · rcases List.mem_append.mp he with he | he
              · exact okst e he
              · obtain ⟨c, hc, he⟩ := List.mem_flatMap.mp he
                obtain ⟨x, hx, rfl⟩ := List.mem_map.mp he
                refine hd5 fun h0 => ?_
                have : x ∈ (innD r).flatten := List.mem_flatten.mpr ⟨c, List.mem_reverse.mp hc, List.mem_reverse.mp hx⟩
                rw [h0] at this
                cases this
            · rw [List.reverse_append, push_rev, walkS_app, ← walkR_inn d4 hrd]
              exact hW
end
end K05
set_option Elab.async false
set_option linter.all false
set_option maxRecDepth 100000
set_option maxHeartbeats 4000000
/-! Rules of my own: sorted(..) of a set of texts. -/
namespace ZR
open PySem PySem.Spec PyProof.Rows L2
section
variable {P : Program} {w : World} {A : Around} {E : Value → Shared → Prop} {s : Shared} {a : Addr} {ks : List Str}
theorem sort_setS {Q : Value → Shared → Prop} (R : SetS w s.heap a ks) (hh : A.handled = none)
    (q : ∀ s' p (out : Array Value) (c : Nat) (ys : List Str), (∀ b o, s.heap.get? b = some o → s'.heap.get? b = some o) → s'.gens = s.gens ∧ s'.os = s.os → s.heap.objs.size ≤ p ∧ s'.heap.get? p = some (seqObj "list" out c) →
      StrsAre out.toList ys → ys.Perm ks ∧ sortedS ys = true → Q (.ref p) s') :
    wpAny (model P w) A (call (.builtin "sorted") [.ref a]) Q E s := by
  obtain ⟨o, es, ep, t, ho, hex, hd, T⟩ := R
  have few := T.sm
  refine Calls.call_function_entry kind_sorted plain_sorted entry_sorted (args_sorted1 _) ?_; unfold Builtin.«sorted»
  refine wpAny_bind (m := checkCount "sorted" 1 1 _) (wpAny_pure (wpAny_bind (collect_set (A := A.in1) hh ⟨o, ho, hex.1, hd⟩ T.ft few T.ri T.ld fun s1 vs old hz g1 o1 pm => ?_)))
  have hvs : ∀ v ∈ vs, ∃ x u, v = Value.str x u := fun v hv => by
    obtain ⟨e, he, rfl⟩ := List.mem_map.mp (pm.mem_iff.mp hv)
    obtain ⟨x, u, rfl⟩ := T.gd e he
    exact ⟨x, u, rfl⟩
  have hS := strsAre_map vs hvs
  have hk : (vs.map strOf).Perm ks := by
    refine List.Perm.trans ((pm.map strOf).trans ?_) T.pm
    rw [List.map_map]
    refine List.Perm.of_eq (List.map_congr_left fun e he => ?_)
    obtain ⟨x, u, rfl⟩ := T.gd e he
    rfl
  have hL : vs.length ≤ sizeLine := by
    rw [pm.length_eq, List.length_map, Array.length_toList]
    exact Nat.le_of_lt (Nat.lt_trans few (by decide))
  refine wpAny_bind (wpAny_newList ?_ hL)
  have hl : (s1.heap.push (seqObj "list" vs.toArray 0)).get? s1.heap.objs.size = some (seqObj "list" vs.toArray 0) := Heap.get?_push_size _ rfl
  refine wpAny_bind (wpAny_holding (wpAny_call_entry slot_list_sort ⟨_, hl, rfl⟩ entry_list_sort (list_sort_treeKAny strKind_oneLt hl hS.keysOf (fun u v rest e => keyKind_strs (by rw [← e]; exact hS)) hL fun st' hp hs => ⟨_, rfl, ?_⟩) (args_list_sort _)))
  obtain ⟨ys, y1, y2, y3⟩ := sorted_out_str hS hp hs
  obtain ⟨c, hc⟩ := sortedHeap_at (vs := vs) (out := (arrOf st').map (·.2)) hl
  refine wpAny_pure ⟨_, rfl, q _ s1.heap.objs.size _ c ys (fun b u e => ?_) ⟨g1, o1⟩ ⟨hz, hc⟩ y1 ⟨y2.trans hk, y3⟩⟩
  have e1 := old b u e
  have lt := Heap.lt_size e1
  refine (sortedHeap_old (Nat.ne_of_lt lt) ?_).trans (Heap.get?_push_of_some _ e1)
  exact (size_push' s1.heap (seqObj "list" vs.toArray 0)).symm ▸ Nat.lt_succ_of_lt lt
end
/-- sorted(s), s a set of texts -/
def rSortTx (w : World) : List V → Hp → VK → Prop := fun vs H Q => ∃ (a : Addr) (ks : List Str), vs = [V.ref a] ∧ H a = some (SetTO w a ks) ∧ ks.length ≤ 4096 ∧ ∀ (ys : List Str) (p : Addr), ys.Perm ks → sortedS ys = true → H p = none → Q (.ref p) (upd H p (.lst (ys.map V.str)))
theorem call_sortTx {X : Cx} (hc : X.calm = true) : CallR X (.builtin "sorted") (rSortTx X.w) := by
  intro pins s σ H vs us Q I r h
  obtain ⟨a, ks, rfl, ha, few, q⟩ := h
  rw [Vals.ref1 r]
  refine sort_setS (setTO_get I ha) (I.ok.hd hc) fun s' p out c ys old go hp hs hy => ?_
  obtain ⟨g, o⟩ := go
  have hn : H p = none := I.hok.fresh hp.1
  have hl : (ys.map V.str).length ≤ sizeLine := by
    rw [List.length_map, hy.1.length_eq]
    exact Nat.le_trans few (by decide)
  have J : Inv X pins σ (upd H p (.lst (ys.map V.str))) { s with heap := s'.heap, gens := s'.gens, drawn := s'.drawn, toks := s'.toks } :=
    I.call (ch := []) (Un.laid old hp.1 hn) (I.hok.laid old hp.1 ⟨hl, out.toList, c, vals_of_strs hs, hp.2⟩) (by rw [g]; exact I.bare) fun _ z => nomatch z
  obtain ⟨h2, g2, d2, t2, o2⟩ := s'
  obtain ⟨h1, g1, d1, t1, o1⟩ := s
  dsimp only at g o
  subst g o
  exact ⟨.ref p, _, J, rfl, q ys p hy.1 hy.2 hn⟩
end ZR
set_option Elab.async false
set_option linter.all false
set_option maxRecDepth 100000
set_option maxHeartbeats 4000000
/-! Lots: ascending tuples of unlike texts. Sets of texts, by what was put in. -/
namespace PM
open PySem PySem.Spec PyProof.Rows L2 ZX ZR
def leS (a b : Str) : Prop := a.cps.toList ≤ b.cps.toList
theorem leS_of {a b : Str} (h : (!ltCps b.cps.toList a.cps.toList) = true) : leS a b := by
  rw [ltCps_eq, Bool.not_eq_true', decide_eq_false_iff_not] at h
  exact List.not_lt.mp h
theorem leS_trans {a b c : Str} (h : leS a b) (k : leS b c) : leS a c := List.le_trans h k
theorem leS_anti {a b : Str} (h : leS a b) (k : leS b a) : a = b := by
  have e := List.le_antisymm h k
  obtain ⟨⟨x⟩⟩ := a
  obtain ⟨⟨y⟩⟩ := b
  simp only at e
  rw [e]
theorem rising_pw : ∀ (ss : List Str) (p : Str), risingS p ss = true → (p :: ss).Pairwise leS
  | [], p, _ => List.pairwise_singleton _ _
  | x :: r, p, h => by
    obtain ⟨h1, h2⟩ := Bool.and_eq_true_iff.mp (show (!ltCps x.cps.toList p.cps.toList && risingS x r) = true from h)
    have ih := rising_pw r x h2
    refine List.pairwise_cons.mpr ⟨fun z hz => ?_, ih⟩
    rcases List.mem_cons.mp hz with e | hz
    · rw [e]
      exact leS_of h1
    · exact leS_trans (leS_of h1) ((List.pairwise_cons.mp ih).1 z hz)
theorem sorted_pw {ss : List Str} (h : sortedS ss = true) : ss.Pairwise leS := by
  cases ss with
  | nil => exact List.Pairwise.nil
  | cons x r => exact rising_pw r x h
/-- ys: the texts of L, ascending, each once -/
structure IsLot (ys L : List Str) : Prop where
  so : sortedS ys = true
  nd : ys.Nodup
  me : ∀ x, x ∈ ys ↔ x ∈ L
theorem IsLot.uniq {ys zs L M : List Str} (h : IsLot ys L) (k : IsLot zs M) (e : ∀ x, x ∈ L ↔ x ∈ M) : ys = zs :=
  List.Perm.eq_of_pairwise (fun _ _ _ _ => leS_anti) (sorted_pw h.so) (sorted_pw k.so) ((List.perm_ext_iff_of_nodup h.nd k.nd).mpr fun x => (h.me x).trans ((e x).trans (k.me x).symm))
theorem IsLot.le {ys L W : List Str} (h : IsLot ys L) (s : ∀ x ∈ L, x ∈ W) : ys.length ≤ W.length := List.Nodup.length_le_of_subset h.nd fun x hx => s x ((h.me x).mp hx)
/-- texts put into a set, one behind another -/
def insAll (L : List Str) : List Str := L.foldl (fun ks x => ins x ks) []
theorem ins_mem {x y : Str} {ks : List Str} : y ∈ ins x ks ↔ y ∈ ks ∨ y = x := by
  unfold ins
  split
  · rename_i h
    exact ⟨.inl, fun q => q.elim id fun e => e ▸ h⟩
  · rw [List.mem_append, List.mem_singleton]
theorem ins_nodup {x : Str} {ks : List Str} (h : ks.Nodup) : (ins x ks).Nodup := by
  unfold ins
  split
  · exact h
  · rename_i hn
    refine List.nodup_append.mpr ⟨h, List.nodup_cons.mpr ⟨(fun z => nomatch z), List.nodup_nil⟩, fun a ha b hb e => ?_⟩
    rw [List.mem_singleton] at hb
    subst hb e
    exact hn ha
theorem ins_len {x : Str} {ks : List Str} : (ins x ks).length ≤ ks.length + 1 := by
  unfold ins
  split
  · exact Nat.le_succ _
  · simp
theorem insAll_snoc (L : List Str) (x : Str) : insAll (L ++ [x]) = ins x (insAll L) := by simp [insAll]
theorem insAll_ok (L : List Str) : (insAll L).Nodup ∧ (∀ x, x ∈ insAll L ↔ x ∈ L) ∧ (insAll L).length ≤ L.length := by
  suffices h : ∀ (n : Nat) (L : List Str), L.length = n → (insAll L).Nodup ∧ (∀ x, x ∈ insAll L ↔ x ∈ L) ∧ (insAll L).length ≤ L.length from h _ L rfl
  intro n
  induction n with
  | zero =>
    intro L hL
    rw [List.length_eq_zero_iff.mp hL]
    exact ⟨List.nodup_nil, fun _ => Iff.rfl, Nat.le_refl _⟩
  | succ n ih =>
    intro L hL
    rcases snoc_or L with rfl | ⟨M, y, rfl⟩
    · cases hL
    · rw [List.length_append] at hL
      obtain ⟨h1, h2, h3⟩ := ih M (by simpa using hL)
      rw [insAll_snoc]
      refine ⟨ins_nodup h1, fun x => ?_, ?_⟩
      · rw [ins_mem, h2, List.mem_append, List.mem_singleton]
      · have := ins_len (x := y) (ks := insAll M)
        rw [List.length_append]
        show _ ≤ M.length + 1
        omega
theorem lot_of {L ys : List Str} (p : ys.Perm (insAll L)) (h : sortedS ys = true) : IsLot ys L :=
  ⟨h, p.nodup_iff.mpr (insAll_ok L).1, fun x => p.mem_iff.trans ((insAll_ok L).2.1 x)⟩
theorem Pt.ext {H : Hp} {w : World} {D : Addr} {ks : List Str} {o : HO} (h : H D = some (SetTO w D ks)) : Pt H (upd H D o) := fun b ys hb => by
  have ne : b ≠ D := fun e => by
    subst e
    rcases hb with hb | ⟨o, hb⟩ <;> rw [h] at hb <;> cases hb
  exact hb.elim (fun h => .inl (by rw [upd_ne ne]; exact h)) fun ⟨o, h⟩ => .inr ⟨o, by rw [upd_ne ne]; exact h⟩
section
variable {w : World} {α : Type} {as : List α} {fs : α → List Str} {J : It} {zs : List V} {St : Hp → Prop} {g g1 : TG} {te : TE} {wi1 : TI} {vs vs1 : List Nat} {σ : L2.St} {H1 : Hp} {Q : VK}
theorem sc2_into {wi : TI} {H : Hp} (h : wi σ H fun J H1 => tSc2S w (fun _ _ R => R J H1) g wi1 g1 te vs vs1 σ H1 Q) : tSc2S w wi g wi1 g1 te vs vs1 σ H Q := by
  rw [sc2S] at *
  exact h
/-- {x for t in i for t1 in i1}: each thing gives a list of texts -/
theorem sc2_over {K : PySem.W.Frag} {i i1 : Nat} (O : IterOf J zs St) (hz : as.length = zs.length) (hlen : (as.flatMap fs).length + 1 < scanBound) (st : ∀ H', Same H1 H' → Pt H1 H' → St H')
    (hw : ∀ x, wipe ((wipe σ vs).set i (some x)) vs = wipe σ vs) (hw1 : ∀ x z, wipe ((wipe ((wipe σ vs).set i (some x)) vs1).set i1 (some z)) vs1 = wipe ((wipe σ vs).set i (some x)) vs1)
    (step : ∀ (k : Nat) x c, zs[k]? = some x → as[k]? = some c → ∀ H', Same H1 H' → Pt H1 H' → ∀ R : It → Hp → Prop, (∀ a H4, Same H' H4 → H4 a = some (.lst ((fs c).map V.str)) → R (Itl K a) H4) → wi1 ((wipe σ vs).set i (some x)) H' R)
    (elt : ∀ x z H (R : VK), R (.str z) H → te ((wipe ((wipe σ vs).set i (some x)) vs1).set i1 (some (.str z))) H R)
    (fin : ∀ D H', Same H1 H' → Pt H1 H' → H1 D = none → H' D = some (SetTO w D (insAll (as.flatMap fs))) → Q (.ref D) H') :
    tSc2S w (fun _ _ R => R J H1) (gName i) wi1 (gName i1) te vs vs1 σ H1 Q := by
  rw [sc2S]
  intro D hD
  refine ⟨fun k m H => m = zs.length - k ∧ k ≤ zs.length ∧ Same H1 H ∧ Pt H1 H ∧ H D = some (SetTO w D (insAll ((as.take k).flatMap fs))), ⟨zs.length, rfl, Nat.zero_le _, same_new hD, Pt.new hD, by rw [List.take_zero]; exact upd_same⟩, ?_⟩
  rintro k m H ⟨rfl, hk, sm, pt, hks⟩
  have hst := st H sm pt
  by_cases hlt : k < zs.length
  · refine .inr ⟨O.go k H hst hlt, fun H' => k + 1 ≤ zs.length ∧ Same H1 H' ∧ Pt H1 H' ∧ H' D = some (SetTO w D (insAll ((as.take (k + 1)).flatMap fs))), fun H' h => ⟨zs.length - (k + 1), by omega, rfl, h⟩, fun x H' y => ?_⟩
    obtain ⟨rfl, hx⟩ := O.yld k H x H' hst hlt y
    have hka : k < as.length := by omega
    have hc : as[k]? = some as[k] := List.getElem?_eq_getElem hka
    have hle := fm_le1 (f := fs) hc
    refine ⟨hw x, step k x as[k] hx hc H' sm pt _ fun a H4 s4 h4 => ?_⟩
    have ptk : (as.take (k + 1)).flatMap fs = (as.take k).flatMap fs ++ fs as[k] := fm_take hc
    have hDa : a ≠ D := fun e => by
      subst e
      rw [s4 _ _ hks] at h4
      cases h4
    refine ⟨fun j m H => m = (fs as[k]).length - j ∧ j ≤ (fs as[k]).length ∧ Same H1 H ∧ Pt H1 H ∧ H a = some (.lst ((fs as[k]).map V.str)) ∧ H D = some (SetTO w D (insAll ((as.take k).flatMap fs ++ (fs as[k]).take j))),
      ⟨_, rfl, Nat.zero_le _, sm.trans s4, pt.trans s4.pt, h4, by rw [List.take_zero, List.append_nil]; exact s4 _ _ hks⟩, ?_⟩
    rintro j m H ⟨rfl, hj, sm, pt, ha, hks⟩
    have I1 := it_list (K := K) (a := a) (xs := (fs as[k]).map V.str)
    have hl1 : ((fs as[k]).map V.str).length = (fs as[k]).length := List.length_map ..
    by_cases hjl : j < (fs as[k]).length
    · refine .inr ⟨I1.go j H (SqL.of ha) (by omega), fun H' => j + 1 ≤ (fs as[k]).length ∧ Same H1 H' ∧ Pt H1 H' ∧ H' a = some (.lst ((fs as[k]).map V.str)) ∧ H' D = some (SetTO w D (insAll ((as.take k).flatMap fs ++ (fs as[k]).take (j + 1)))), fun H' h => ⟨_, by omega, rfl, h⟩, fun y H' yy => ?_⟩
      obtain ⟨rfl, hy⟩ := I1.yld j H y H' (SqL.of ha) (by omega) yy
      have hz1 : (fs as[k])[j]? = some (fs as[k])[j] := List.getElem?_eq_getElem hjl
      rw [List.getElem?_map, hz1] at hy
      cases hy
      have tk : (fs as[k]).take (j + 1) = (fs as[k]).take j ++ [(fs as[k])[j]] := by
        rw [List.take_succ, hz1]
        rfl
      have hin := (insAll_ok ((as.take k).flatMap fs ++ (fs as[k]).take j)).2.2
      have htl : ((fs as[k]).take j).length ≤ (fs as[k]).length := by
        rw [List.length_take]
        exact Nat.min_le_right _ _
      rw [List.length_append] at hin hle
      refine ⟨hw1 x _, elt x _ _ _ ⟨_, _, rfl, hks, by omega, hjl, fun b o e => ?_, pt.trans (Pt.ext hks), ?_, ?_⟩⟩
      · rw [upd_ne (ne_of_none e hD)]
        exact sm b o e
      · rw [upd_ne hDa]
        exact ha
      · rw [tk, ← List.append_assoc, insAll_snoc]
        exact upd_same
    · have e : j = (fs as[k]).length := by omega
      subst e
      rw [List.take_length, ← ptk] at hks
      refine .inl ⟨?_, hlt, sm, pt, hks⟩
      rw [← hl1]
      exact I1.stop H (SqL.of ha)
  · have e : k = zs.length := by omega
    subst e
    rw [← hz, List.take_length] at hks
    exact .inl ⟨O.stop H hst, fin D H sm pt hD hks⟩
end
end PM
set_option Elab.async false
set_option linter.all false
set_option maxRecDepth 100000
set_option maxHeartbeats 4000000
namespace K05
open PySem PySem.Spec PyProof.Rows L2 ZX PM ZR
def spAllNames (K : PySem.W.Frag) : Sp := fun vs H Q _ => ∃ (a : Addr) (us : List V) (rs : List Rw), vs = [.ref a] ∧ (SqL K H a us ∨ SqT K H a us) ∧ Tvs K H us (rs.map dR) ∧ (∀ r ∈ rs, (namesR r).length ≤ 4) ∧ rs.length ≤ 1000 ∧
  ∀ t ys H', Same H H' → H t = none → IsLot ys (rs.flatMap namesR) → H' t = some (.tup (ys.map V.str)) → Q (.ref t) H'
theorem fm_bound {α β : Type} {f : α → List β} {n : Nat} : ∀ (l : List α), (∀ x ∈ l, (f x).length ≤ n) → (l.flatMap f).length ≤ n * l.length
  | [], _ => Nat.zero_le _
  | x :: l, h => by
    have h1 := h x List.mem_cons_self
    have h2 := fm_bound l fun y hy => h y (List.mem_cons_of_mem _ hy)
    rw [List.flatMap_cons, List.length_append, List.length_cons, Nat.mul_succ]
    omega
section
variable {P : Program} {w : World} {K : PySem.W.Frag} {mg : Str → Option Value} {base : Heap}
theorem scAll_names : FnScope ["rows", "row", "name"] ["rows"] (defScope sAll_names) := ⟨rfl, rfl, rfl, by decide +kernel, rfl, by decide +kernel, by decide +kernel⟩
theorem ok_all_names {f : Addr} {fd : FuncData} (F : FnP K "all_names" sAll_names f fd) (T : Bi mg) (C_names_of : Cal P w K mg base "names_of" 2 ["row"] (spNamesOf K)) : FnOk P w K mg base CX0 3 f fd ["rows"] (spAllNames K) := by
  refine F.ok scAll_names (fun vs H Q E h => ?_) (fun cdv A outer s H vs Q E hr h => ?_)
  · obtain ⟨v, us, rs, rfl, _⟩ := h
    rfl
  · obtain ⟨a, us, rs, rfl, hS, hu, h4, hn, k⟩ := h
    have hlen := fm_bound rs h4
    have hz : rs.length = us.length := by rw [hu.len, List.length_map]
    have fin : ∀ D H', Same H H' → H D = none → H' D = some (SetTO w D (insAll (rs.flatMap namesR))) → (rSortTx w) [.ref D] H' fun v H2 => ∃ p ys, [v] = [V.ref p] ∧ ((SqL K H2 p ys ∧ ∀ l, H2 l = none → Q (.ref l) (upd H2 l (.tup ys))) ∨ (SqT K H2 p ys ∧ Q (.ref p) H2)) := fun D H' sm nD hD =>
      ⟨D, _, rfl, hD, by have := (insAll_ok (rs.flatMap namesR)).2.2; omega, fun ys p pm so np => ⟨p, _, rfl, .inl ⟨SqL.of upd_same, fun l nl => k l ys _ ((sm.trans (same_new np)).trans (same_new nl)) ((sm.trans (same_new np)).free nl) (lot_of pm so) upd_same⟩⟩⟩
    have step : ∀ (kk : Nat) x c, us[kk]? = some x → rs[kk]? = some c → ∀ H', Same H H' → Pt H H' → ∀ R : It → Hp → Prop, (∀ a H4, Same H' H4 → H4 a = some (.lst ((namesR c).map V.str)) → R (Itl K a) H4) → spNamesOf K [x] H' (fun v H1 => ∃ a, v = .ref a ∧ (∃ xs, SqL K H1 a xs) ∧ R (Itl K a) H1) E0 := fun kk x c hx hc H' sm pt R hR => by
      obtain ⟨v, hv, tv⟩ := Tvs.get (i := kk) (d := dR c) hu (by rw [List.getElem?_map, hc]; rfl)
      rw [hx] at hv
      cases hv
      exact ⟨x, c, rfl, tv.pt pt, h4 c (List.mem_of_getElem? hc), fun l H4 s4 _ hl => ⟨l, rfl, ⟨_, SqL.of hl⟩, hR l H4 s4 hl⟩⟩
    rcases hS with hS | hS
    · refine ⟨_, PSs.nox (pss_one (ps_ret (pe_callTy call_tuple_of (by rfl) T.b_tuple (by decide +kernel) (pa_cons (pe_callB (call_sortTx rfl) (by rfl) T.b_sorted (by decide +kernel) (pa_cons (pe_sc2S (own := [("row", 1), ("name", 2)]) (vs1 := [2]) (g := gName 1) (g1 := gName 2) (wi1 := iList K (tCall (spNamesOf K) [] E0 (tCons (tVar 1) tNil))) (by rfl) scAll_names.nd (pi_list (pv 0)) (blkOk_by (N := ["rows", "row", "name"]) (sc := defScope sAll_names) (by decide +kernel)) (by decide) (fun _ _ _ _ _ => (pg_name (i := 1) scAll_names.nd rfl (Or.inl rfl))) (fun _ _ _ _ _ => (pi_list (pcal C_names_of hr rfl (pa_cons (pv 1) pa_nil)))) (fun _ _ _ _ _ => (pg_name (i := 2) scAll_names.nd rfl (Or.inl rfl))) (fun _ _ _ _ _ => (pv 2))) pa_nil)) pa_nil)))), ?_⟩
      refine sc2_into ?_
      refine ⟨_, rfl, a, rfl, ⟨us, hS⟩, ?_⟩
      refine sc2_over (K := K) (as := rs) (fs := namesR) it_list hz (by show _ < 4096; omega) (fun H' sm pt => ?_) (fun _ => rfl) (fun _ _ => rfl) ?_ (fun x z H R h => ⟨_, rfl, h⟩) ?_
      · exact hS.imp (fun h => h.elim (fun h => .inl (sm _ _ h)) fun ⟨o, h⟩ => .inr ⟨o, sm _ _ h⟩) id
      · intro kk x c hx hc H' sm pt R hR
        exact ⟨_, rfl, step kk x c hx hc H' sm pt R hR⟩
      · intro D H' sm pt nD hD
        exact fin D H' sm nD hD
    · refine ⟨_, PSs.nox (pss_one (ps_ret (pe_callTy call_tuple_of (by rfl) T.b_tuple (by decide +kernel) (pa_cons (pe_callB (call_sortTx rfl) (by rfl) T.b_sorted (by decide +kernel) (pa_cons (pe_sc2S (own := [("row", 1), ("name", 2)]) (vs1 := [2]) (g := gName 1) (g1 := gName 2) (wi1 := iList K (tCall (spNamesOf K) [] E0 (tCons (tVar 1) tNil))) (by rfl) scAll_names.nd (pi_tup (pv 0)) (blkOk_by (N := ["rows", "row", "name"]) (sc := defScope sAll_names) (by decide +kernel)) (by decide) (fun _ _ _ _ _ => (pg_name (i := 1) scAll_names.nd rfl (Or.inl rfl))) (fun _ _ _ _ _ => (pi_list (pcal C_names_of hr rfl (pa_cons (pv 1) pa_nil)))) (fun _ _ _ _ _ => (pg_name (i := 2) scAll_names.nd rfl (Or.inl rfl))) (fun _ _ _ _ _ => (pv 2))) pa_nil)) pa_nil)))), ?_⟩
      refine sc2_into ?_
      refine ⟨_, rfl, a, rfl, ⟨us, hS⟩, ?_⟩
      refine sc2_over (K := K) (as := rs) (fs := namesR) it_tup hz (by show _ < 4096; omega) (fun H' sm pt => pt.sq hS) (fun _ => rfl) (fun _ _ => rfl) ?_ (fun x z H R h => ⟨_, rfl, h⟩) ?_
      · intro kk x c hx hc H' sm pt R hR
        exact ⟨_, rfl, step kk x c hx hc H' sm pt R hR⟩
      · intro D H' sm pt nD hD
        exact fin D H' sm nD hD
end
end K05
set_option Elab.async false
set_option linter.all false
set_option maxRecDepth 100000
set_option maxHeartbeats 4000000
namespace PM
open PySem PySem.Spec PyProof.Rows L2 ZX ZR
theorem ifI {c : Bool} {x y : V} {A B : Prop} (R : V → Prop) (hA : R x → A) (hB : R y → B) (h : R (if c then x else y)) : if c = true then A else B := by
  cases c with
  | true => exact hA h
  | false => exact hB h
theorem rd_ifE {c : Bool} {x y : V} {ta tb : TE} {σ : L2.St} {H : Hp} {R : VK} (ha : ∀ R : VK, R x H → ta σ H R) (hb : ∀ R : VK, R y H → tb σ H R) (h : R (if c then x else y) H) : if c = true then ta σ H R else tb σ H R := by
  cases c with
  | true => exact ha R h
  | false => exact hb R h
/-- next places as a tuple -/
def encL (l : List Nat) : PyData := .tuple (l.map fun (n : Nat) => PyData.int (n : Int))
mutual
theorem ok_depR : ∀ {d : Nat} {r : Rw}, okR d r → d ≤ 4 → depR r + d ≤ 4
  | d, .either a b, h, hd => by
    obtain ⟨h1, _, _, h2, h3⟩ := h
    have := ok_depB h2 (by omega)
    have := ok_depB h3 (by omega)
    show max (depB a) (depB b) + 1 + d ≤ 4
    omega
  | d, .again a, h, hd => by
    obtain ⟨h1, _, h2⟩ := h
    have := ok_depB h2 (by omega)
    show depB a + 1 + d ≤ 4
    omega
  | d, .note _ _ _, _, hd => by show 0 + d ≤ 4; omega
  | d, .copy _ _, _, hd => by show 0 + d ≤ 4; omega
  | d, .give _ _, _, hd => by show 0 + d ≤ 4; omega
  | d, .ask _, _, hd => by show 0 + d ≤ 4; omega
  | d, .prt _, _, hd => by show 0 + d ≤ 4; omega
theorem ok_depB : ∀ {d : Nat} {b : List Rw}, okB d b → d ≤ 4 → depB b + d ≤ 4
  | d, [], _, hd => by show 0 + d ≤ 4; omega
  | d, r :: b, h, hd => by
    have := ok_depR h.1 hd
    have := ok_depB h.2 hd
    show max (depR r) (depB b) + d ≤ 4
    omega
end
mutual
theorem ok_names_R : ∀ {d : Nat} {r : Rw}, okR d r → ∀ x ∈ rowsR r, (namesR x).length ≤ 4
  | d, .either a b, h, x, hx => by
    rcases List.mem_cons.mp hx with rfl | hx
    · exact Nat.zero_le _
    · rcases List.mem_append.mp hx with hx | hx
      · exact ok_names_B h.2.2.2.1 x hx
      · exact ok_names_B h.2.2.2.2 x hx
  | d, .again a, h, x, hx => by
    rcases List.mem_cons.mp hx with rfl | hx
    · exact Nat.zero_le _
    · exact ok_names_B h.2.2 x hx
  | d, .note y o ps, h, x, hx => by
    rw [List.mem_singleton.mp hx]
    show ps.length + 1 ≤ 4
    have := h.2.2.1
    omega
  | d, .copy _ _, h, x, hx => by
    rw [List.mem_singleton.mp hx]
    show 2 ≤ 4
    omega
  | d, .give _ _, h, x, hx => by
    rw [List.mem_singleton.mp hx]
    show 1 ≤ 4
    omega
  | d, .ask _, h, x, hx => by
    rw [List.mem_singleton.mp hx]
    show 1 ≤ 4
    omega
  | d, .prt _, h, x, hx => by
    rw [List.mem_singleton.mp hx]
    show 1 ≤ 4
    omega
theorem ok_names_B : ∀ {d : Nat} {b : List Rw}, okB d b → ∀ x ∈ rowsB b, (namesR x).length ≤ 4
  | d, [], _, x, hx => nomatch hx
  | d, r :: b, h, x, hx => by
    rcases List.mem_append.mp hx with hx | hx
    · exact ok_names_R h.1 x hx
    · exact ok_names_B h.2 x hx
end
/-- a program's block -/
structure Good (b : List Rw) : Prop where
  ok : okB 1 b
  l12 : b.length ≤ 12
  l30 : (rowsB b).length ≤ 30
  n8 : ∀ ys, IsLot ys ((rowsB b).flatMap namesR) → ys.length ≤ 8
end PM
namespace K05
open PySem PySem.Spec PyProof.Rows L2 ZX PM ZR
def spBad (K : PySem.W.Frag) : Sp := fun vs H Q _ => ∃ (v : V) (b : List Rw) (mn : Int), vs = [v, .int mn] ∧ BV K H v b ∧ Good b ∧ ∀ H', Same H H' → Q .non H'
def spRowLeads (K : PySem.W.Frag) (n : Nat) : Sp := fun vs H Q _ => ∃ (v : V) (r : Rw) (p e : Nat), vs = [v, .int p, .int e] ∧ RV K H v r ∧ depR r < n ∧ depR r ≤ 3 ∧ (rowsR r).length ≤ 1000 ∧
  ∀ l us H', Same H H' → H l = none → H' l = some (.lst us) → Tvs K H' us ((leadsR r p e).map encL) → Q (.ref l) H'
def spBlockLeads (K : PySem.W.Frag) (n : Nat) : Sp := fun vs H Q _ => ∃ (v : V) (b : List Rw) (p e : Nat), vs = [v, .int p, .int e] ∧ BV K H v b ∧ depB b < n ∧ depB b ≤ 3 ∧ (rowsB b).length ≤ 1000 ∧
  ∀ l us H', Same H H' → H l = none → H' l = some (.lst us) → Tvs K H' us ((leadsB b p e).map encL) → Q (.ref l) H'
section
variable {P : Program} {w : World} {K : PySem.W.Frag} {mg : Str → Option Value} {base : Heap}
theorem scBad_place : FnScope ["block", "many", "place", "rows"] ["block", "many"] (defScope sBad_place) := ⟨rfl, rfl, rfl, by decide +kernel, rfl, by decide +kernel, by decide +kernel⟩
theorem ok_bad_place {f : Addr} {fd : FuncData} (F : FnP K "bad_place" sBad_place f fd) (T : Bi mg) (C_formless_place : Cal P w K mg base "formless_place" 4 ["block", "many"] (spFormless K)) (C_rows_of : Cal P w K mg base "rows_of" 5 ["block"] (spRowsOf K 4)) (C_all_names : Cal P w K mg base "all_names" 3 ["rows"] (spAllNames K)) : FnOk P w K mg base CX0 6 f fd ["block", "many"] (spBad K) := by
  refine F.ok scBad_place (fun vs H Q E h => ?_) (fun cdv A outer s H vs Q E hr h => ?_)
  · obtain ⟨v, r, mn, rfl, _⟩ := h
    rfl
  · obtain ⟨v, b, mn, rfl, tv, G, k⟩ := h
    obtain ⟨a, xs, rfl, hS, ht⟩ := tv.tupI
    have hr_formless_place := hr.mono (show 4 ≤ 5 by decide)
    have hr_all_names := hr.mono (show 3 ≤ 5 by decide)
    have hr_rows_of := hr
    obtain ⟨t12, m_MOST_ROWS_IN_BLOCK⟩ := T.m_MOST_ROWS_IN_BLOCK
    obtain ⟨t30, m_MOST_ROWS⟩ := T.m_MOST_ROWS
    obtain ⟨t8, m_MOST_NAMES⟩ := T.m_MOST_NAMES
    refine ⟨_, PSs.nox (pss_cons (ps_if (pt_not (pt_val (pe_callB call_isi (by rfl) T.b_isinstance (by decide +kernel) (pa_cons (pv 0) (pa_cons (pe_bltn (v := .ty "tuple") (by rfl) T.b_tuple (by decide +kernel) rfl) pa_nil))))) (pss_one (ps_ret (pe_un un_neg pe_int))) pss_nil)
    (pss_cons (ps_set (i := 2) scBad_place.nd rfl (Or.inl rfl) (pcal C_formless_place hr_formless_place rfl (pa_cons (pv 0) (pa_cons (pv 1) pa_nil))))
    (pss_cons (ps_if (pt_cmpR op_notN (pv 2) pe_non (nomark _)) (pss_one (ps_ret (pv 2))) pss_nil)
    (pss_cons (ps_set (i := 3) scBad_place.nd rfl (Or.inl rfl) (pcal C_rows_of hr_rows_of rfl (pa_cons (pv 0) pa_nil)))
    (pss_cons (ps_if (PW.pt (pw_or (pt_cmpR op_gt (pe_callB call_len_seq (by rfl) T.b_len (by decide +kernel) (pa_cons (pv 0) pa_nil)) (pe_glob (v := .int _) rfl m_MOST_ROWS_IN_BLOCK ⟨_, rfl⟩) (nomark _)) (pw_or (pt_cmpR op_gt (pe_callB call_len_seq (by rfl) T.b_len (by decide +kernel) (pa_cons (pv 3) pa_nil)) (pe_glob (v := .int _) rfl m_MOST_ROWS ⟨_, rfl⟩) (nomark _)) (pw_or1 (pt_cmpR op_gt (pe_callB call_len_seq (by rfl) T.b_len (by decide +kernel) (pa_cons (pcal C_all_names hr_all_names rfl (pa_cons (pv 3) pa_nil)) pa_nil)) (pe_glob (v := .int _) rfl m_MOST_NAMES ⟨_, rfl⟩) (nomark _)))))) (pss_one (ps_ret (pe_un un_neg pe_int))) pss_nil)
    (pss_one (ps_ret pe_non))))))), ?_⟩
    have l30 := G.l30
    have hdep := ok_depB G.ok (by decide)
    have hxl : xs.length = b.length := by rw [ht.len, dB_eq, List.length_map]
    refine ⟨_, rfl, _, _, _, _, true, rfl, .ty "tuple", tyT hS, rfl, true, rfl, ?_⟩
    refine ⟨_, rfl, _, rfl, _, b, mn, rfl, tv, G.ok, by omega, fun H1 s1 => ?_⟩
    refine ⟨_, rfl, rfl, false, rfl, ?_⟩
    refine ⟨_, rfl, _, b, rfl, tv.pt s1.pt, by omega, by omega, fun l us H2 s2 nl hl hu => ?_⟩
    have hul := hu.len
    rw [List.length_map] at hul
    refine ⟨_, rfl, a, _, rfl, .inr ((s1.trans s2).pt.sq hS), _, _, rfl, rfl, _, rfl, ifDF (by have := G.l12; omega) ?_⟩
    refine ⟨_, rfl, l, _, rfl, .inl (SqL.of hl), _, _, rfl, rfl, _, rfl, ifDF (by omega) ?_⟩
    refine ⟨_, rfl, l, us, rowsB b, rfl, .inl (SqL.of hl), hu, ok_names_B G.ok, by omega, fun t ys H3 s3 nt ly ht3 => ?_⟩
    have := G.n8 ys ly
    refine ⟨t, _, rfl, .inr (.inl (.inl ht3)), _, _, rfl, rfl, _, rfl, ?_⟩
    rw [decide_eq_false (by rw [List.length_map]; omega)]
    exact k H3 ((s1.trans s2).trans s3)
end
end K05
set_option Elab.async false
set_option linter.all false
set_option maxRecDepth 100000
set_option maxHeartbeats 4000000
namespace PM
open PySem PySem.Spec PyProof.Rows L2 ZX ZR
mutual
/-- a right row as a thing -/
def rD : Rw → Dt
  | .note x o ps => .tup [.str "note", .str x, .str o, .tup (ps.map .str)]
  | .copy x y => .tup [.str "copy", .str x, .str y]
  | .give x i => .tup [.str "give", .str x, .int i]
  | .ask x => .tup [.str "ask", .str x]
  | .prt x => .tup [.str "print", .str x]
  | .either a b => .tup [.str "either", .tup (bD a), .tup (bD b)]
  | .again a => .tup [.str "again", .tup (bD a)]
def bD : List Rw → List Dt
  | [] => []
  | r :: b => rD r :: bD b
end
theorem bD_len : ∀ b : List Rw, (bD b).length = b.length
  | [] => rfl
  | r :: b => by rw [bD, List.length_cons, List.length_cons, bD_len b]
mutual
theorem rows_szR : ∀ r : Rw, (rowsR r).length ≤ szD (rD r)
  | .either a b => by
    have h1 := rows_szB a
    have h2 := rows_szB b
    show ((rowsB a ++ rowsB b).length + 1) ≤ szL [.str "either", .tup (bD a), .tup (bD b)] + 1
    rw [List.length_append, szL, szL, szL, szD, szD]
    omega
  | .again a => by
    have h1 := rows_szB a
    show ((rowsB a).length + 1) ≤ szL [.str "again", .tup (bD a)] + 1
    rw [szL, szL, szD]
    omega
  | .note x o ps => szD_pos _
  | .copy x y => szD_pos _
  | .give x i => szD_pos _
  | .ask x => szD_pos _
  | .prt x => szD_pos _
theorem rows_szB : ∀ b : List Rw, (rowsB b).length ≤ szL (bD b)
  | [] => Nat.zero_le _
  | r :: b => by
    have h1 := rows_szR r
    have h2 := rows_szB b
    rw [rowsB, List.length_append, bD, szL]
    omega
end
theorem nameD_ok {a : Dt} (h : nameD a = true) : ∃ x, a = .str x ∧ NameOk x := by
  cases a with
  | str x => exact ⟨x, rfl, nameB_ok h⟩
  | _ => cases h
theorem names_ok : ∀ {ds : List Dt}, (ds.map nameD).all id = true → ∃ ps : List Str, ds = ps.map .str ∧ ∀ y ∈ ps, NameOk y
  | [], _ => ⟨[], rfl, fun _ h => nomatch h⟩
  | d :: ds, h => by
    obtain ⟨h1, h2⟩ := Bool.and_eq_true_iff.mp (show (nameD d && (ds.map nameD).all id) = true from h)
    obtain ⟨x, rfl, n1⟩ := nameD_ok h1
    obtain ⟨ps, rfl, n2⟩ := names_ok h2
    refine ⟨x :: ps, rfl, fun y hy => ?_⟩
    rcases List.mem_cons.mp hy with rfl | hy
    · exact n1
    · exact n2 y hy
theorem partsD_ok {c : Dt} (h : partsD c = true) : ∃ ps : List Str, c = .tup (ps.map .str) ∧ ps.length ≤ 3 ∧ ∀ y ∈ ps, NameOk y := by
  cases c with
  | tup ds =>
    obtain ⟨h1, h2⟩ := Bool.and_eq_true_iff.mp (show (decide (ds.length ≤ 3) && (ds.map nameD).all id) = true from h)
    obtain ⟨ps, rfl, hn⟩ := names_ok h2
    have h3 := of_decide_eq_true h1
    rw [List.length_map] at h3
    exact ⟨ps, rfl, h3, hn⟩
  | _ => cases h
/-- a right row without blocks -/
theorem plain_ok {d : Nat} {w : Str} {r : List Dt} (h : restD d w r = true) (w6 : w ≠ "either") (w7 : w ≠ "again") : ∃ q : Rw, Dt.tup (.str w :: r) = rD q ∧ okR d q := by
  unfold restD at h
  by_cases w1 : w = "note"
  · subst w1
    rw [if_pos rfl] at h
    rcases on3_or r with ⟨a, b, c, rfl⟩ | ⟨_, hf⟩
    · obtain ⟨h1, h⟩ := Bool.and_eq_true_iff.mp (show (nameD a && (nameD b && partsD c)) = true from h)
      obtain ⟨h2, h3⟩ := Bool.and_eq_true_iff.mp h
      obtain ⟨x, rfl, n1⟩ := nameD_ok h1
      obtain ⟨o, rfl, n2⟩ := nameD_ok h2
      obtain ⟨ps, rfl, l3, n3⟩ := partsD_ok h3
      exact ⟨.note x o ps, rfl, n1, n2, l3, n3⟩
    · rw [hf] at h
      cases h
  rw [if_neg w1] at h
  by_cases w2 : w = "copy"
  · subst w2
    rw [if_pos rfl] at h
    rcases on2_or r with ⟨a, b, rfl⟩ | ⟨_, hf⟩
    · obtain ⟨h1, h2⟩ := Bool.and_eq_true_iff.mp (show (nameD a && nameD b) = true from h)
      obtain ⟨x, rfl, n1⟩ := nameD_ok h1
      obtain ⟨y, rfl, n2⟩ := nameD_ok h2
      exact ⟨.copy x y, rfl, n1, n2⟩
    · rw [hf] at h
      cases h
  rw [if_neg w2] at h
  by_cases w3 : w = "give"
  · subst w3
    rw [if_pos rfl] at h
    rcases on2_or r with ⟨a, b, rfl⟩ | ⟨_, hf⟩
    · obtain ⟨h1, h2⟩ := Bool.and_eq_true_iff.mp (show (nameD a && intD b) = true from h)
      obtain ⟨x, rfl, n1⟩ := nameD_ok h1
      cases b with
      | int i => exact ⟨.give x i, rfl, n1⟩
      | _ => cases h2
    · rw [hf] at h
      cases h
  rw [if_neg w3] at h
  by_cases w4 : w = "ask"
  · subst w4
    rw [if_pos rfl] at h
    rcases on1_or r with ⟨a, rfl⟩ | ⟨_, hf⟩
    · obtain ⟨x, rfl, n1⟩ := nameD_ok (show nameD a = true from h)
      exact ⟨.ask x, rfl, n1⟩
    · rw [hf] at h
      cases h
  rw [if_neg w4] at h
  by_cases w5 : w = "print"
  · subst w5
    rw [if_pos rfl] at h
    rcases on1_or r with ⟨a, rfl⟩ | ⟨_, hf⟩
    · obtain ⟨x, rfl, n1⟩ := nameD_ok (show nameD a = true from h)
      exact ⟨.prt x, rfl, n1⟩
    · rw [hf] at h
      cases h
  rw [if_neg w5, if_neg w6, if_neg w7] at h
  cases h
theorem fold_err {g : Dt → Nat → Except Nat Nat} (l : List Dt) (p : Nat) : l.foldl (fun s x => exB (g x) s) (.error p) = .error p := by
  induction l with
  | nil => rfl
  | cons e l ih => exact ih
theorem fold_ok {g : Dt → Nat → Except Nat Nat} : ∀ {l : List Dt} {n m : Nat}, l.foldl (fun s x => exB (g x) s) (.ok n) = .ok m → ∀ y ∈ l, ∃ a b, g y a = .ok b
  | x :: l, n, m, h, y, hy => by
    rw [List.foldl_cons] at h
    have h : l.foldl (fun s x => exB (g x) s) (g x n) = .ok m := h
    cases e : g x n with
    | error p =>
      rw [e, fold_err] at h
      cases h
    | ok m' =>
      rw [e] at h
      rcases List.mem_cons.mp hy with rfl | hy
      · exact ⟨n, m', e⟩
      · exact fold_ok h y hy
theorem all_bD {d : Nat} : ∀ {l : List Dt}, (∀ y ∈ l, ∃ q : Rw, y = rD q ∧ okR d q) → ∃ b : List Rw, l = bD b ∧ okB d b
  | [], _ => ⟨[], rfl, trivial⟩
  | y :: l, h => by
    obtain ⟨q, rfl, o⟩ := h y List.mem_cons_self
    obtain ⟨b, rfl, o2⟩ := all_bD fun z hz => h z (List.mem_cons_of_mem _ hz)
    exact ⟨q :: b, rfl, o, o2⟩
/-- what is gone through with no fault is a row -/
theorem walk_ok : ∀ (f d : Nat) (x : Dt) (n m : Nat), d + f = 5 → walkR f d x n = .ok m → ∃ q : Rw, x = rD q ∧ okR d q := by
  intro f
  induction f with
  | zero =>
    intro d x n m hd h
    cases hr : rowD d x with
    | false =>
      rw [walkR_no hr] at h
      cases h
    | true =>
      obtain ⟨w, r, rfl, hrest, hc⟩ := rowD_or hr
      rcases hc with ⟨_, L, _, _, h5, _⟩ | ⟨w6, w7, _⟩
      · omega
      · exact plain_ok hrest w6 w7
  | succ f ih =>
    intro d x n m hd h
    cases hr : rowD d x with
    | false =>
      rw [walkR_no hr] at h
      cases h
    | true =>
      rw [walkR, if_pos hr] at h
      obtain ⟨w, r, rfl, hrest, hc⟩ := rowD_or hr
      rcases hc with ⟨hw, L, rfl, hL, h5, h12⟩ | ⟨w6, w7, _⟩
      · rw [hL] at h
        have hall := fold_ok h
        have hin : ∀ c ∈ L, ∃ b : List Rw, c = bD b ∧ okB (d + 1) b := fun c hc => all_bD fun y hy => by
          obtain ⟨a, b, e⟩ := hall y (List.mem_flatten.mpr ⟨c, hc, hy⟩)
          exact ih (d + 1) y a b (by omega) e
        rcases hw with rfl | rfl
        · have er : restD d "either" (L.map Dt.tup) = on2 (fun a b => blockD (d + 1) a && blockD (d + 1) b) (L.map Dt.tup) := by
            unfold restD
            rw [if_neg (by decide +kernel), if_neg (by decide +kernel), if_neg (by decide +kernel), if_neg (by decide +kernel), if_neg (by decide +kernel), if_pos rfl]
          rw [er] at hrest
          match L, hin, h12, hrest with
          | [c1, c2], hin, h12, _ =>
            obtain ⟨b1, rfl, o1⟩ := hin c1 (by simp)
            obtain ⟨b2, rfl, o2⟩ := hin c2 (by simp)
            have l1 := h12 (bD b1) (by simp)
            have l2 := h12 (bD b2) (by simp)
            rw [bD_len] at l1 l2
            exact ⟨.either b1 b2, rfl, by omega, l1, l2, o1, o2⟩
          | [], _, _, hrest => cases hrest
          | [_], _, _, hrest => cases hrest
          | _ :: _ :: _ :: _, _, _, hrest => cases hrest
        · have er : restD d "again" (L.map Dt.tup) = on1 (blockD (d + 1)) (L.map Dt.tup) := by
            unfold restD
            rw [if_neg (by decide +kernel), if_neg (by decide +kernel), if_neg (by decide +kernel), if_neg (by decide +kernel), if_neg (by decide +kernel), if_neg (by decide +kernel), if_pos rfl]
          rw [er] at hrest
          match L, hin, h12, hrest with
          | [c1], hin, h12, _ =>
            obtain ⟨b1, rfl, o1⟩ := hin c1 (by simp)
            have l1 := h12 (bD b1) (by simp)
            rw [bD_len] at l1
            exact ⟨.again b1, rfl, by omega, l1, o1⟩
          | [], _, _, hrest => cases hrest
          | _ :: _ :: _, _, _, hrest => cases hrest
      · exact plain_ok hrest w6 w7
end PM
set_option Elab.async false
set_option linter.all false
set_option maxRecDepth 100000
set_option maxHeartbeats 4000000
namespace PM
open PySem PySem.Spec PyProof.Rows L2 ZX ZR
section
variable {K : PySem.W.Frag} {C : Addr} {H : Hp}
theorem Td.strI {v : V} {x : Str} (h : Td K C H v (.str x)) : v = .str x := by cases h; rfl
theorem Tds.strs : ∀ {vs : List V} {ps : List Str}, Tds K C H vs (ps.map .str) → Tvs K H vs (ps.map .str)
  | _, [], .nil => .nil
  | _, x :: ps, .cons h t => by
    cases h
    exact .cons (.str x) (Tds.strs t)
theorem Td.tupI {v : V} {ds : List Dt} (h : Td K C H v (.tup ds)) : ∃ a xs, v = .ref a ∧ SqT K H a xs ∧ Tds K C H xs ds := by
  cases h with
  | tup h t => exact ⟨_, _, rfl, h, t⟩
theorem Tds.consI {vs : List V} {d : Dt} {ds : List Dt} (h : Tds K C H vs (d :: ds)) : ∃ v us, vs = v :: us ∧ Td K C H v d ∧ Tds K C H us ds := by
  cases h with
  | cons h t => exact ⟨_, _, rfl, h, t⟩
theorem Tds.nilI {vs : List V} (h : Tds K C H vs []) : vs = [] := by
  cases h
  rfl
theorem Td.intI {v : V} {i : Int} (h : Td K C H v (.int i)) : v = .int i := by cases h; rfl
mutual
theorem Td.rd : ∀ (r : Rw) (v : V), Td K C H v (rD r) → Tv K H v (dR r)
  | .note x o ps, v, h => by
    obtain ⟨a, xs, e, hS, t⟩ := Td.tupI h
    obtain ⟨v1, vs, e1, h1, t⟩ := Tds.consI t
    obtain ⟨v2, vs2, e2, h2, t⟩ := Tds.consI t
    obtain ⟨v3, vs3, e3, h3, t⟩ := Tds.consI t
    obtain ⟨v4, vs4, e4, h4, t⟩ := Tds.consI t
    obtain ⟨b, ys, e5, hS2, t2⟩ := Td.tupI h4
    have e6 := Tds.nilI t
    rw [e1, e2, e3, e4, e6, h1.strI, h2.strI, h3.strI, e5] at hS
    rw [e]
    exact .tup hS (.cons (.str _) (.cons (.str _) (.cons (.str _) (.cons (.tup hS2 (Tds.strs t2)) .nil))))
  | .copy x y, v, h => by
    obtain ⟨a, xs, e, hS, t⟩ := Td.tupI h
    obtain ⟨v1, vs, e1, h1, t⟩ := Tds.consI t
    obtain ⟨v2, vs2, e2, h2, t⟩ := Tds.consI t
    obtain ⟨v3, vs3, e3, h3, t⟩ := Tds.consI t
    have e6 := Tds.nilI t
    rw [e1, e2, e3, e6, h1.strI, h2.strI, h3.strI] at hS
    rw [e]
    exact .tup hS (.cons (.str _) (.cons (.str _) (.cons (.str _) .nil)))
  | .give x i, v, h => by
    obtain ⟨a, xs, e, hS, t⟩ := Td.tupI h
    obtain ⟨v1, vs, e1, h1, t⟩ := Tds.consI t
    obtain ⟨v2, vs2, e2, h2, t⟩ := Tds.consI t
    obtain ⟨v3, vs3, e3, h3, t⟩ := Tds.consI t
    have e6 := Tds.nilI t
    rw [e1, e2, e3, e6, h1.strI, h2.strI, h3.intI] at hS
    rw [e]
    exact .tup hS (.cons (.str _) (.cons (.str _) (.cons (.int _) .nil)))
  | .ask x, v, h => by
    obtain ⟨a, xs, e, hS, t⟩ := Td.tupI h
    obtain ⟨v1, vs, e1, h1, t⟩ := Tds.consI t
    obtain ⟨v2, vs2, e2, h2, t⟩ := Tds.consI t
    have e6 := Tds.nilI t
    rw [e1, e2, e6, h1.strI, h2.strI] at hS
    rw [e]
    exact .tup hS (.cons (.str _) (.cons (.str _) .nil))
  | .prt x, v, h => by
    obtain ⟨a, xs, e, hS, t⟩ := Td.tupI h
    obtain ⟨v1, vs, e1, h1, t⟩ := Tds.consI t
    obtain ⟨v2, vs2, e2, h2, t⟩ := Tds.consI t
    have e6 := Tds.nilI t
    rw [e1, e2, e6, h1.strI, h2.strI] at hS
    rw [e]
    exact .tup hS (.cons (.str _) (.cons (.str _) .nil))
  | .either p q, v, h => by
    obtain ⟨a, xs, e, hS, t⟩ := Td.tupI h
    obtain ⟨v1, vs, e1, h1, t⟩ := Tds.consI t
    obtain ⟨v2, vs2, e2, h2, t⟩ := Tds.consI t
    obtain ⟨v3, vs3, e3, h3, t⟩ := Tds.consI t
    obtain ⟨b2, ys2, f2, hS2, t2⟩ := Td.tupI h2
    obtain ⟨b3, ys3, f3, hS3, t3⟩ := Td.tupI h3
    have e6 := Tds.nilI t
    rw [e1, e2, e3, e6, h1.strI, f2, f3] at hS
    rw [e]
    exact .tup hS (.cons (.str _) (.cons (.tup hS2 (Tds.bd p ys2 t2)) (.cons (.tup hS3 (Tds.bd q ys3 t3)) .nil)))
  | .again p, v, h => by
    obtain ⟨a, xs, e, hS, t⟩ := Td.tupI h
    obtain ⟨v1, vs, e1, h1, t⟩ := Tds.consI t
    obtain ⟨v2, vs2, e2, h2, t⟩ := Tds.consI t
    obtain ⟨b2, ys2, f2, hS2, t2⟩ := Td.tupI h2
    have e6 := Tds.nilI t
    rw [e1, e2, e6, h1.strI, f2] at hS
    rw [e]
    exact .tup hS (.cons (.str _) (.cons (.tup hS2 (Tds.bd p ys2 t2)) .nil))
theorem Tds.bd : ∀ (b : List Rw) (vs : List V), Tds K C H vs (bD b) → Tvs K H vs (dB b)
  | [], vs, h => by
    rw [Tds.nilI h]
    exact .nil
  | r :: b, vs, h => by
    obtain ⟨v1, us, e1, h1, t⟩ := Tds.consI h
    rw [e1]
    exact .cons (Td.rd r v1 h1) (Tds.bd b us t)
end
end
end PM
set_option Elab.async false
set_option linter.all false
set_option maxRecDepth 100000
set_option maxHeartbeats 4000000
namespace PM
open PySem PySem.Spec PyProof.Rows L2 ZX ZR
/-- what a thing comes to as a program's block -/
inductive BadIs : Dt → Option Int → Prop
  | no {x : Dt} (h : ∀ ds, x ≠ .tup ds) : BadIs x (some (-1))
  | at_ {b : List Dt} {p : Nat} (h : walkS (b.map fun r => (1, r)) (.ok 0) = .error p) : BadIs (.tup b) (some p)
  | big {b : List Rw} {m : Nat} (h : walkS ((bD b).map fun r => (1, r)) (.ok 0) = .ok m) (ok : okB 1 b) (g : ¬ Good b) : BadIs (.tup (bD b)) (some (-1))
  | good {b : List Rw} {m : Nat} (h : walkS ((bD b).map fun r => (1, r)) (.ok 0) = .ok m) (g : Good b) : BadIs (.tup (bD b)) none
theorem BadIs.any (x : Dt) : ∃ o, BadIs x o := by
  cases x with
  | tup b =>
    cases h : walkS (b.map fun r => (1, r)) (.ok 0) with
    | error p => exact ⟨_, .at_ h⟩
    | ok m =>
      have hf : walkS (b.map fun r => (1, r)) (.ok 0) = b.foldl (fun s x => exB (walkR 4 1 x) s) (.ok 0) := by
        rw [walkS, List.foldl_map]
        rfl
      have hall := fold_ok (hf.symm.trans h)
      obtain ⟨rb, rfl, ok⟩ := all_bD (d := 1) fun y hy => by
        obtain ⟨a, c, e⟩ := hall y hy
        exact walk_ok 4 1 y a c rfl e
      by_cases g : Good rb
      · exact ⟨_, .good h g⟩
      · exact ⟨_, .big h ok g⟩
  | _ => exact ⟨_, .no fun _ e => by cases e⟩
end PM
namespace K05
open PySem PySem.Spec PyProof.Rows L2 ZX PM ZR
def optV : Option Int → V
  | some i => .int i
  | none => .non
def spBadD (K : PySem.W.Frag) (C : Addr) : Sp := fun vs H Q _ => ∃ (v : V) (x : Dt) (o : Option Int), vs = [v, .int 0] ∧ Td K C H v x ∧ szD x ≤ 1000000 ∧ BadIs x o ∧ ∀ H', Same H H' → Q (optV o) H'
section
variable {P : Program} {w : World} {K : PySem.W.Frag} {mg : Str → Option Value} {base : Heap} {C : Addr}
theorem ok_badD {f : Addr} {fd : FuncData} (O : OthC K C) (F : FnP K "bad_place" sBad_place f fd) (T : Bi mg) (C_formless_place : Cal P w K mg base "formless_place" 4 ["block", "many"] (spFormlessD K C)) (C_rows_of : Cal P w K mg base "rows_of" 5 ["block"] (spRowsOf K 4)) (C_all_names : Cal P w K mg base "all_names" 3 ["rows"] (spAllNames K)) : FnOk P w K mg base CX0 6 f fd ["block", "many"] (spBadD K C) := by
  refine F.ok scBad_place (fun vs H Q E h => ?_) (fun cdv A outer s H vs Q E hr h => ?_)
  · obtain ⟨v, r, o, rfl, _⟩ := h
    rfl
  · obtain ⟨v, x, o, rfl, tv, hsz, hB, k⟩ := h
    have hr_formless_place := hr.mono (show 4 ≤ 5 by decide)
    have hr_all_names := hr.mono (show 3 ≤ 5 by decide)
    have hr_rows_of := hr
    obtain ⟨t12, m_MOST_ROWS_IN_BLOCK⟩ := T.m_MOST_ROWS_IN_BLOCK
    obtain ⟨t30, m_MOST_ROWS⟩ := T.m_MOST_ROWS
    obtain ⟨t8, m_MOST_NAMES⟩ := T.m_MOST_NAMES
    refine ⟨_, PSs.nox (pss_cons (ps_if (pt_not (pt_val (pe_callB call_isi (by rfl) T.b_isinstance (by decide +kernel) (pa_cons (pv 0) (pa_cons (pe_bltn (v := .ty "tuple") (by rfl) T.b_tuple (by decide +kernel) rfl) pa_nil))))) (pss_one (ps_ret (pe_un un_neg pe_int))) pss_nil)
    (pss_cons (ps_set (i := 2) scBad_place.nd rfl (Or.inl rfl) (pcal C_formless_place hr_formless_place rfl (pa_cons (pv 0) (pa_cons (pv 1) pa_nil))))
    (pss_cons (ps_if (pt_cmpR op_notN (pv 2) pe_non (nomark _)) (pss_one (ps_ret (pv 2))) pss_nil)
    (pss_cons (ps_set (i := 3) scBad_place.nd rfl (Or.inl rfl) (pcal C_rows_of hr_rows_of rfl (pa_cons (pv 0) pa_nil)))
    (pss_cons (ps_if (PW.pt (pw_or (pt_cmpR op_gt (pe_callB call_len_seq (by rfl) T.b_len (by decide +kernel) (pa_cons (pv 0) pa_nil)) (pe_glob (v := .int _) rfl m_MOST_ROWS_IN_BLOCK ⟨_, rfl⟩) (nomark _)) (pw_or (pt_cmpR op_gt (pe_callB call_len_seq (by rfl) T.b_len (by decide +kernel) (pa_cons (pv 3) pa_nil)) (pe_glob (v := .int _) rfl m_MOST_ROWS ⟨_, rfl⟩) (nomark _)) (pw_or1 (pt_cmpR op_gt (pe_callB call_len_seq (by rfl) T.b_len (by decide +kernel) (pa_cons (pcal C_all_names hr_all_names rfl (pa_cons (pv 3) pa_nil)) pa_nil)) (pe_glob (v := .int _) rfl m_MOST_NAMES ⟨_, rfl⟩) (nomark _)))))) (pss_one (ps_ret (pe_un un_neg pe_int))) pss_nil)
    (pss_one (ps_ret pe_non))))))), ?_⟩
    rcases tv.tupOr O with ⟨a, xs, ds, rfl, rfl, hS, ht⟩ | ⟨nt, t, hty, e⟩
    rotate_left
    · cases hB with
      | no _ => exact ⟨_, rfl, _, _, _, _, false, rfl, .ty "tuple", hty, e, false, rfl, _, rfl, k _ fun _ _ h => h⟩
      | at_ h => exact absurd rfl (nt _)
      | big _ _ _ => exact absurd rfl (nt _)
      | good _ _ => exact absurd rfl (nt _)
    rw [szD] at hsz
    refine ⟨_, rfl, _, _, _, _, true, rfl, .ty "tuple", tyT hS, rfl, true, rfl, ?_⟩
    refine ⟨_, rfl, _, rfl, _, ds, rfl, tv, by omega, fun H1 s1 => ?_⟩
    cases hB with
    | no h => exact absurd rfl (h _)
    | at_ h =>
      rw [h]
      exact ⟨_, rfl, rfl, true, rfl, _, rfl, k H1 s1⟩
    | @big b m h ok g =>
      rw [h]
      have hrl := rows_szB b
      have hdep := ok_depB ok (by decide)
      have hbl := bD_len b
      have hxl := ht.len
      have tb : BV K H (.ref a) b := .tup hS (Tds.bd _ _ ht)
      refine ⟨_, rfl, rfl, false, rfl, ?_⟩
      refine ⟨_, rfl, _, b, rfl, tb.pt s1.pt, by omega, by omega, fun l us H2 s2 nl hl hu => ?_⟩
      have hul := hu.len
      rw [List.length_map] at hul
      refine ⟨_, rfl, a, _, rfl, .inr ((s1.trans s2).pt.sq hS), _, _, rfl, rfl, _, rfl, ?_⟩
      by_cases c1 : b.length ≤ 12
      · refine ifDF (by omega) ?_
        refine ⟨_, rfl, l, _, rfl, .inl (SqL.of hl), _, _, rfl, rfl, _, rfl, ?_⟩
        by_cases c2 : (rowsB b).length ≤ 30
        · refine ifDF (by omega) ?_
          refine ⟨_, rfl, l, us, rowsB b, rfl, .inl (SqL.of hl), hu, ok_names_B ok, by omega, fun t ys H3 s3 nt ly ht3 => ?_⟩
          have c3 : 8 < ys.length := by
            by_cases h8 : ys.length ≤ 8
            · exact absurd ⟨ok, c1, c2, fun zs lz => by rw [IsLot.uniq lz ly (fun _ => Iff.rfl)]; exact h8⟩ g
            · omega
          refine ⟨t, _, rfl, .inr (.inl (.inl ht3)), _, _, rfl, rfl, _, rfl, ?_⟩
          rw [decide_eq_true (by rw [List.length_map]; omega)]
          exact ⟨_, rfl, k H3 ((s1.trans s2).trans s3)⟩
        · exact ifD (by omega) ⟨_, rfl, k H2 (s1.trans s2)⟩
      · exact ifD (by omega) ⟨_, rfl, k H2 (s1.trans s2)⟩
    | @good b m h G =>
      rw [h]
      have hbl := bD_len b
      have hxl := ht.len
      have l30 := G.l30
      have hdep := ok_depB G.ok (by decide)
      have tb : BV K H (.ref a) b := .tup hS (Tds.bd _ _ ht)
      refine ⟨_, rfl, rfl, false, rfl, ?_⟩
      refine ⟨_, rfl, _, b, rfl, tb.pt s1.pt, by omega, by omega, fun l us H2 s2 nl hl hu => ?_⟩
      have hul := hu.len
      rw [List.length_map] at hul
      refine ⟨_, rfl, a, _, rfl, .inr ((s1.trans s2).pt.sq hS), _, _, rfl, rfl, _, rfl, ifDF (by have := G.l12; omega) ?_⟩
      refine ⟨_, rfl, l, _, rfl, .inl (SqL.of hl), _, _, rfl, rfl, _, rfl, ifDF (by omega) ?_⟩
      refine ⟨_, rfl, l, us, rowsB b, rfl, .inl (SqL.of hl), hu, ok_names_B G.ok, by omega, fun t ys H3 s3 nt ly ht3 => ?_⟩
      have := G.n8 ys ly
      refine ⟨t, _, rfl, .inr (.inl (.inl ht3)), _, _, rfl, rfl, _, rfl, ?_⟩
      rw [decide_eq_false (by rw [List.length_map]; omega)]
      exact k H3 ((s1.trans s2).trans s3)
end
end K05
set_option Elab.async false
set_option linter.all false
set_option maxRecDepth 100000
set_option maxHeartbeats 4000000
namespace K05
open PySem PySem.Spec PyProof.Rows L2 ZX PM ZR
abbrev sLIsInt : Stmt := top 49
abbrev sLIsName : Stmt := top 50
theorem abc {c : Nat} : decide (c ∈ (Str.ofString "abcdefghijklmnopqrstuvwxyz").cps.toList) = (decide (97 ≤ c) && decide (c ≤ 122)) := by
  have e : (Str.ofString "abcdefghijklmnopqrstuvwxyz").cps.toList = [97,98,99,100,101,102,103,104,105,106,107,108,109,110,111,112,113,114,115,116,117,118,119,120,121,122] := by decide +kernel
  rw [e, ← Bool.decide_and, decide_eq_decide]
  simp only [List.mem_cons, List.not_mem_nil, or_false]
  omega
section
variable {P : Program} {w : World} {K : PySem.W.Frag} {mg : Str → Option Value} {base : Heap} {C : Addr}
theorem scLIsInt : FnScope ["_law_thing"] ["_law_thing"] (defScope sLIsInt) := ⟨rfl, rfl, rfl, by decide +kernel, rfl, by decide +kernel, by decide +kernel⟩
theorem ok_lis_int {f : Addr} {fd : FuncData} (F : FnP K "_law_is_int" sLIsInt f fd) (T : Bi mg) : FnOk P w K mg base CX0 1 f fd ["_law_thing"] (spIsInt K) := by
  refine F.ok scLIsInt (fun vs H Q E h => ?_) (fun cdv A outer s H vs Q E hr h => ?_)
  · obtain ⟨v, b, rfl, _⟩ := h
    rfl
  · obtain ⟨v, b, rfl, hn, k⟩ := h
    refine ⟨_, PSs.nox (pss_one (ps_ret (pe_and (pe_callB call_isi (by rfl) T.b_isinstance (by decide +kernel) (pa_cons (pv 0) (pa_cons (pe_bltn (v := .ty "int") (by rfl) T.b_int (by decide +kernel) rfl) pa_nil))) (pe_one (pe_not (pe_callB call_isi (by rfl) T.b_isinstance (by decide +kernel) (pa_cons (pv 0) (pa_cons (pe_bltn (v := .ty "bool") (by rfl) T.b_bool (by decide +kernel) rfl) pa_nil)))))))), ?_⟩
    cases hn with
    | int i => exact ⟨_, rfl, _, _, _, _, true, rfl, .ty "int", .base (.int i), rfl, _, rfl, _, rfl, _, _, _, _, false, rfl, .ty "bool", .base (.int i), rfl, _, rfl, k⟩
    | bl c => exact ⟨_, rfl, _, _, _, _, true, rfl, .ty "int", .base (.bl c), rfl, _, rfl, _, rfl, _, _, _, _, true, rfl, .ty "bool", .base (.bl c), rfl, _, rfl, k⟩
    | oth ht e => exact ⟨_, rfl, _, _, _, _, false, rfl, .ty "int", ht, e, _, rfl, k⟩
theorem scLIsName : FnScope ["_law_thing", "_law_sign"] ["_law_thing"] (defScope sLIsName) := ⟨rfl, rfl, rfl, by decide +kernel, rfl, by decide +kernel, by decide +kernel⟩
theorem ok_lnameD {f : Addr} {fd : FuncData} (O : OthC K C) (F : FnP K "_law_is_name" sLIsName f fd) (T : Bi mg) : FnOk P w K mg base CX0 1 f fd ["_law_thing"] (spNameD K C) := by
  refine F.ok scLIsName (fun vs H Q E h => ?_) (fun cdv A outer s H vs Q E hr h => ?_)
  · obtain ⟨v, d, rfl, _⟩ := h
    rfl
  · obtain ⟨v, d, rfl, tv, k⟩ := h
    refine ⟨_, PSs.nox (pss_cons (ps_if (PW.pt (pw_or (pt_not (pt_val (pe_callB call_isi (by rfl) T.b_isinstance (by decide +kernel) (pa_cons (pv 0) (pa_cons (pe_bltn (v := .ty "str") (by rfl) T.b_str (by decide +kernel) rfl) pa_nil))))) (pw_or1 (pt_not (pt_chain op_le op_le pe_int (pe_callB call_len_str (by rfl) T.b_len (by decide +kernel) (pa_cons (pv 0) pa_nil)) pe_int))))) (pss_one (ps_ret pe_bl)) pss_nil)
    (pss_one (ps_ret (pe_callB (cr_all rfl) (by rfl) T.b_all (by decide +kernel) (pa_cons (pe_lcS (own := [("_law_sign", 1)]) (g := gName 1) (tt := tYes) (by rfl) scLIsName.nd (pi_str (pv 0)) (blkOk_by (N := ["_law_thing", "_law_sign"]) (sc := defScope sLIsName) (by decide +kernel)) (fun _ _ _ _ _ => (pg_name (i := 1) scLIsName.nd rfl (Or.inl rfl))) (fun _ _ _ _ _ => pts_nil) (fun _ _ _ _ _ => (pe_cmpR op_inS (pv 1) pe_str (by with_unfolding_all rfl)))) pa_nil))))), ?_⟩
    rcases tv.strOr O with ⟨x, rfl, rfl, hx⟩ | ⟨ns, t, ht, e⟩
    · have hz : x.length ≤ sizeLine := Nat.le_trans hx (by decide)
      refine ⟨_, rfl, _, _, _, _, true, rfl, .ty "str", .base (.str x), rfl, true, rfl, _, rfl, _, rfl, hz, _, _, rfl, rfl, _, rfl, ?_⟩
      by_cases h1 : 1 ≤ x.length
      · refine ifD (by omega) ⟨_, _, rfl, rfl, _, rfl, ?_⟩
        by_cases h8 : x.length ≤ 8
        · rw [decide_eq_true (show (x.length : Int) ≤ 8 by omega)]
          refine lc_into ?_
          refine ⟨_, rfl, _, rfl, ?_⟩
          refine lc_overA (p := none) (as := x.cps.toList) (Rel := fun _ c y => y = .bl (decide (97 ≤ c) && decide (c ≤ 122))) it_str ?_ (fun _ _ _ _ _ h => h) (fun _ h => nomatch h) ?_ (fun _ _ _ => trivial) ?_ ?_
          · rw [letters_len, Array.length_toList]
          · rw [letters_len]
            exact Nat.lt_of_le_of_lt h8 (by decide)
          · intro i z c hz hc H' _ _ R k
            have ez : z = .str ⟨#[c]⟩ := by
              rw [letters, List.getElem?_map, hc] at hz
              exact (Option.some.inj hz).symm
            subst ez
            refine ⟨rfl, _, rfl, c, _, rfl, rfl, k _ _ Kq.refl (Pt.refl _) ?_⟩
            show V.bl (decide (c ∈ (Str.ofString "abcdefghijklmnopqrstuvwxyz").cps.toList)) = _
            rw [abc]
          · intro D ys H' kq _ _ hD all
            have e := All2.map all
            subst e
            refine ⟨D, x.cps.toList.map fun c => decide (97 ≤ c) && decide (c ≤ 122), rfl, SqL.of (by rw [hD, List.map_map]; rfl), ?_⟩
            have hn : nameD (.str x) = (x.cps.toList.map fun c => decide (97 ≤ c) && decide (c ≤ 122)).all id := by
              show nameB x = _
              unfold nameB
              rw [decide_eq_true h1, decide_eq_true h8]
              rfl
            rw [← hn]
            exact k _ kq.same
        · rw [decide_eq_false (show ¬ (x.length : Int) ≤ 8 by omega)]
          have hn : nameD (.str x) = false := by
            show nameB x = _
            unfold nameB
            rw [decide_eq_true h1, decide_eq_false h8]
            rfl
          rw [hn] at k
          exact k _ fun _ _ h => h
      · refine ifDF (by omega) ?_
        have hn : nameD (.str x) = false := by
          show nameB x = _
          unfold nameB
          rw [decide_eq_false h1]
          rfl
        rw [hn] at k
        exact ⟨_, rfl, k _ fun _ _ h => h⟩
    · rw [nameD_no ns] at k
      exact ⟨_, rfl, _, _, _, _, false, rfl, .ty "str", ht, e, false, rfl, k _ fun _ _ h => h⟩
end
end K05
set_option Elab.async false
set_option linter.all false
set_option maxRecDepth 100000
set_option maxHeartbeats 4000000
namespace PM
open PySem PySem.Spec PyProof.Rows L2 ZX ZR
def b12 : Dt → Bool
  | .tup c => decide (c.length ≤ 12)
  | _ => false
theorem b12_block {n : Nat} (h : n ≠ 4) (l : n ≤ 4) (d : Dt) : blockD (n + 1) d = b12 d := by
  cases d with
  | tup c =>
    show (decide (c.length ≤ 12) && decide (n + 1 ≤ 4)) = decide (c.length ≤ 12)
    rw [decide_eq_true (show n + 1 ≤ 4 by omega), Bool.and_true]
  | _ => rfl
theorem block_4 (d : Dt) : blockD (4 + 1) d = false := by
  cases d with
  | tup c =>
    show (decide (c.length ≤ 12) && decide (4 + 1 ≤ 4)) = false
    rw [decide_eq_false (show ¬ 4 + 1 ≤ 4 by omega), Bool.and_false]
  | _ => rfl
theorem rest_either {n : Nat} {r : List Dt} : restD n "either" r = on2 (fun a b => blockD (n + 1) a && blockD (n + 1) b) r := by
  unfold restD
  rw [if_neg (by decide +kernel), if_neg (by decide +kernel), if_neg (by decide +kernel), if_neg (by decide +kernel), if_neg (by decide +kernel), if_pos rfl]
theorem rest_again {n : Nat} {r : List Dt} : restD n "again" r = on1 (blockD (n + 1)) r := by
  unfold restD
  rw [if_neg (by decide +kernel), if_neg (by decide +kernel), if_neg (by decide +kernel), if_neg (by decide +kernel), if_neg (by decide +kernel), if_neg (by decide +kernel), if_pos rfl]
/-- a row with blocks, as the other judge has it -/
theorem rest_cont {n : Nat} {w : Str} {r : List Dt} (l : n ≤ 4) (hw : w = "either" ∨ w = "again") : restD n w r = (decide (r.length = if w = "either" then 2 else 1) && (!decide (n = 4) && (r.map b12).all id)) := by
  rcases hw with rfl | rfl
  · rw [rest_either, if_pos rfl]
    rcases on2_or r with ⟨a, b, rfl⟩ | ⟨hn, hf⟩
    · by_cases h4 : n = 4
      · subst h4
        show (blockD (4 + 1) a && _) = _
        rw [block_4, decide_eq_true (rfl : (4 : Nat) = 4)]
        simp
      · show (blockD (n + 1) a && blockD (n + 1) b) = _
        rw [b12_block h4 l, b12_block h4 l, decide_eq_false h4]
        simp
    · rw [hf, decide_eq_false hn]
      rfl
  · rw [rest_again, if_neg (by decide +kernel)]
    rcases on1_or r with ⟨a, rfl⟩ | ⟨hn, hf⟩
    · by_cases h4 : n = 4
      · subst h4
        show blockD (4 + 1) a = _
        rw [block_4, decide_eq_true (rfl : (4 : Nat) = 4)]
        simp
      · show blockD (n + 1) a = _
        rw [b12_block h4 l, decide_eq_false h4]
        simp
    · rw [hf, decide_eq_false hn]
      rfl
theorem rest_nil {n : Nat} {w : Str} : restD n w [] = false := by
  unfold restD
  repeat' split
  all_goals rfl
end PM
namespace K05
open PySem PySem.Spec PyProof.Rows L2 ZX PM ZR
abbrev sLIsRow : Stmt := top 51
def rLenQ (K : PySem.W.Frag) : List V → Hp → VK → Prop := fun xs H Q => ∃ p ys, xs = [.ref p] ∧ (SqL K H p ys ∨ SqT K H p ys) ∧ Q (.int ys.length) H
abbrev teI (K : PySem.W.Frag) : TE := tAndV (tCB (rIsi K) (tCons (tVar 2) (tCons (tC (.ty "tuple")) tNil))) (tOp (rI0 fun i j => V.bl (decide (i ≤ j))) (tCB (rLenQ K) (tCons (tVar 2) tNil)) (tC (.int 12)))
def spLRowD (K : PySem.W.Frag) (C : Addr) : Sp := fun vs H Q _ => ∃ (n : Nat) (v : V) (d : Dt), vs = [v, .int n] ∧ n ≤ 4 ∧ Td K C H v d ∧ ∀ H', Same H H' → Q (.bl (rowD n d)) H'
section
variable {P : Program} {w : World} {K : PySem.W.Frag} {mg : Str → Option Value} {base : Heap} {C : Addr}
theorem scLIsRow : FnScope ["_law_row", "_law_deep_here", "_law_inner", "_law_name"] ["_law_row", "_law_deep_here"] (defScope sLIsRow) := ⟨rfl, rfl, rfl, by decide +kernel, rfl, by decide +kernel, by decide +kernel⟩
theorem ok_lrowD {f : Addr} {fd : FuncData} (O : OthC K C) (F : FnP K "_law_is_row" sLIsRow f fd) (T : Bi mg) (C__law_is_name : Cal P w K mg base "_law_is_name" 1 ["_law_thing"] (spNameD K C)) (C__law_is_int : Cal P w K mg base "_law_is_int" 1 ["_law_thing"] (spIsInt K)) : FnOk P w K mg base CX0 2 f fd ["_law_row", "_law_deep_here"] (spLRowD K C) := by
  refine F.ok scLIsRow (fun vs H Q E h => ?_) (fun cdv A outer s H vs Q E hr h => ?_)
  · obtain ⟨n, v, d, rfl, _⟩ := h
    rfl
  · obtain ⟨n, v, d, rfl, n4, tv, k⟩ := h
    have hr__law_is_name := hr
    have hr__law_is_int := hr
    refine ⟨_, PSs.nox (pss_cons (ps_if (PW.pt (pw_or (pt_not (pt_val (pe_callB call_isi (by rfl) T.b_isinstance (by decide +kernel) (pa_cons (pv 0) (pa_cons (pe_bltn (v := .ty "tuple") (by rfl) T.b_tuple (by decide +kernel) rfl) pa_nil))))) (pw_or (pt_cmpR op_lt (pe_callB call_len_seq (by rfl) T.b_len (by decide +kernel) (pa_cons (pv 0) pa_nil)) pe_int (nomark _)) (pw_or1 (pt_not (pt_val (pe_callB call_isi (by rfl) T.b_isinstance (by decide +kernel) (pa_cons (pe_ix ix_tup (pv 0) pe_int (fun _ _ => rfl)) (pa_cons (pe_bltn (v := .ty "str") (by rfl) T.b_str (by decide +kernel) rfl) pa_nil))))))))) (pss_one (ps_ret pe_bl)) pss_nil)
    (pss_cons (ps_if (pt_cmpR op_in_seq (pe_ix ix_tup (pv 0) pe_int (fun _ _ => rfl)) (pe_tup (pa_cons pe_str (pa_cons pe_str pa_nil))) (by with_unfolding_all rfl)) (pss_cons (ps_if (PW.pt (pw_or (pt_cmpR op_ne (pe_callB call_len_seq (by rfl) T.b_len (by decide +kernel) (pa_cons (pv 0) pa_nil)) (pe_ix ix_list (pe_lst (pa_cons pe_int (pa_cons pe_int pa_nil))) (pe_callTy call_int1 (by rfl) T.b_int (by decide +kernel) (pa_cons (pe_cmpR op_eq (pe_ix ix_tup (pv 0) pe_int (fun _ _ => rfl)) pe_str (nomark _)) pa_nil)) (fun _ _ => rfl)) (nomark _)) (pw_or1 (pt_cmpR op_eq (pv 1) pe_int (nomark _))))) (pss_one (ps_ret pe_bl)) pss_nil)
      (pss_one (ps_ret (pe_callB (cr_all rfl) (by rfl) T.b_all (by decide +kernel) (pa_cons (pe_lcS (own := [("_law_inner", 2)]) (g := gName 2) (tt := tYes) (te := teI K) (by rfl) scLIsRow.nd (pi_tup (pe_slice sl_tup (pv 0) (po_some pe_int) po_none)) (blkOk_by (N := ["_law_row", "_law_deep_here", "_law_inner", "_law_name"]) (sc := defScope sLIsRow) (by decide +kernel)) (fun _ _ _ _ _ => (pg_name (i := 2) scLIsRow.nd rfl (Or.inl rfl))) (fun _ _ _ _ _ => pts_nil) (fun _ _ _ _ _ => (pe_and (pe_callB call_isi (by rfl) T.b_isinstance (by decide +kernel) (pa_cons (pv 2) (pa_cons (pe_bltn (v := .ty "tuple") (by rfl) T.b_tuple (by decide +kernel) rfl) pa_nil))) (pe_one (pe_cmpR op_le (pe_callB call_len_seq (by rfl) T.b_len (by decide +kernel) (pa_cons (pv 2) pa_nil)) pe_int (nomark _)))))) pa_nil))))) pss_nil)
    (pss_cons (ps_if (pt_not (pt_val (pcal C__law_is_name hr__law_is_name rfl (pa_cons (pe_ix ix_tup (pv 0) pe_int (fun _ _ => rfl)) pa_nil)))) (pss_one (ps_ret pe_bl)) pss_nil)
    (pss_cons (ps_if (pt_cmpR op_eq (pe_ix ix_tup (pv 0) pe_int (fun _ _ => rfl)) pe_str (nomark _)) (pss_cons (ps_if (PW.pt (pw_or (pt_cmpR op_ne (pe_callB call_len_seq (by rfl) T.b_len (by decide +kernel) (pa_cons (pv 0) pa_nil)) pe_int (nomark _)) (pw_or (pt_not (pt_val (pcal C__law_is_name hr__law_is_name rfl (pa_cons (pe_ix ix_tup (pv 0) pe_int (fun _ _ => rfl)) pa_nil)))) (pw_or (pt_not (pt_val (pe_callB call_isi (by rfl) T.b_isinstance (by decide +kernel) (pa_cons (pe_ix ix_tup (pv 0) pe_int (fun _ _ => rfl)) (pa_cons (pe_bltn (v := .ty "tuple") (by rfl) T.b_tuple (by decide +kernel) rfl) pa_nil))))) (pw_or1 (pt_cmpR op_gt (pe_callB call_len_seq (by rfl) T.b_len (by decide +kernel) (pa_cons (pe_ix ix_tup (pv 0) pe_int (fun _ _ => rfl)) pa_nil)) pe_int (nomark _))))))) (pss_one (ps_ret pe_bl)) pss_nil)
      (pss_one (ps_ret (pe_callB (cr_all rfl) (by rfl) T.b_all (by decide +kernel) (pa_cons (pe_lcS (own := [("_law_name", 3)]) (g := gName 3) (tt := tYes) (by rfl) scLIsRow.nd (pi_tup (pe_ix ix_tup (pv 0) pe_int (fun _ _ => rfl))) (blkOk_by (N := ["_law_row", "_law_deep_here", "_law_inner", "_law_name"]) (sc := defScope sLIsRow) (by decide +kernel)) (fun _ _ _ _ _ => (pg_name (i := 3) scLIsRow.nd rfl (Or.inl rfl))) (fun _ _ _ _ _ => pts_nil) (fun _ _ _ _ _ => (pcal C__law_is_name hr__law_is_name rfl (pa_cons (pv 3) pa_nil)))) pa_nil))))) pss_nil)
    (pss_cons (ps_if (pt_cmpR op_eq (pe_ix ix_tup (pv 0) pe_int (fun _ _ => rfl)) pe_str (nomark _)) (pss_one (ps_ret (pe_and (pe_cmpR op_eq (pe_callB call_len_seq (by rfl) T.b_len (by decide +kernel) (pa_cons (pv 0) pa_nil)) pe_int (nomark _)) (pe_one (pcal C__law_is_name hr__law_is_name rfl (pa_cons (pe_ix ix_tup (pv 0) pe_int (fun _ _ => rfl)) pa_nil)))))) pss_nil)
    (pss_cons (ps_if (pt_cmpR op_eq (pe_ix ix_tup (pv 0) pe_int (fun _ _ => rfl)) pe_str (nomark _)) (pss_one (ps_ret (pe_and (pe_cmpR op_eq (pe_callB call_len_seq (by rfl) T.b_len (by decide +kernel) (pa_cons (pv 0) pa_nil)) pe_int (nomark _)) (pe_one (pcal C__law_is_int hr__law_is_int rfl (pa_cons (pe_ix ix_tup (pv 0) pe_int (fun _ _ => rfl)) pa_nil)))))) pss_nil)
    (pss_one (ps_ret (pe_and (pe_cmpR op_in_seq (pe_ix ix_tup (pv 0) pe_int (fun _ _ => rfl)) (pe_tup (pa_cons pe_str (pa_cons pe_str pa_nil))) (by with_unfolding_all rfl)) (pe_one (pe_cmpR op_eq (pe_callB call_len_seq (by rfl) T.b_len (by decide +kernel) (pa_cons (pv 0) pa_nil)) pe_int (nomark _)))))))))))), ?_⟩
    have k0 : rowD n d = false → ∀ H', Same H H' → Q (.bl false) H' := fun e => by
      rw [e] at k
      exact k
    rcases tv.tupOr O with ⟨a, xs, ds, rfl, rfl, hS, ht⟩ | ⟨nt, t, ht, e⟩
    rotate_left
    · exact ⟨_, rfl, _, _, _, _, false, rfl, .ty "tuple", ht, e, false, rfl, k0 (rowD_no nt) _ fun _ _ h => h⟩
    have hl := ht.len
    refine ⟨_, rfl, _, _, _, _, true, rfl, .ty "tuple", tyT hS, rfl, true, rfl, _, rfl, a, _, rfl, .inr hS, _, _, rfl, rfl, _, rfl, ?_⟩
    match ds, ht, hl, k, k0 with
    | [], ht, hl, k, k0 => exact ifD (by rw [hl]; decide) (k0 rfl _ fun _ _ h => h)
    | [d0], ht, hl, k, k0 =>
      refine ifD (by rw [hl]; show (1 : Int) < 2; decide) (k0 ?_ _ fun _ _ h => h)
      cases d0 with
      | str x => exact rest_nil
      | _ => rfl
    | d0 :: d1 :: r, ht, hl, k, k0 =>
      obtain ⟨v0, us, rfl, t0, hu⟩ := Tds.consI ht
      rcases t0.strOr O with ⟨wd, rfl, rfl, hwl⟩ | ⟨ns, t, hty, e⟩
      rotate_left
      · refine ifDF (by rw [hl]; simp; omega) ⟨_, rfl, _, _, _, _, rfl, rfl, hS, at0, _, _, _, _, false, rfl, .ty "str", hty, e, false, rfl, k0 ?_ _ fun _ _ h => h⟩
        cases d0 with
        | str x => exact absurd rfl (ns x)
        | _ => rfl
      refine ifDF (by rw [hl]; simp; omega) ⟨_, rfl, _, _, _, _, rfl, rfl, hS, at0, _, _, _, _, true, rfl, .ty "str", .base (.str _), rfl, true, rfl, ?_⟩
      refine ⟨_, rfl, _, _, _, _, rfl, rfl, hS, at0, by decide, fun t nt => ?_⟩
      have s1 := same_new (o := .tup [V.str "either", V.str "again"]) nt
      have ei : inV (V.str wd) [V.str "either", V.str "again"] = (decide (wd = "either") || decide (wd = "again")) := by
        show (Str.ofString "either" == wd || (Str.ofString "again" == wd || false)) = _
        rw [Bool.or_false, BEq.comm, BEq.comm (a := Str.ofString "again")]
        rfl
      refine ⟨_, _, rfl, .inr (.inl (.inl upd_same)), rfl, rfl, _, rfl, ?_⟩
      show if inV (V.str wd) [V.str "either", V.str "again"] = true then _ else _
      generalize upd H t (.tup [V.str "either", V.str "again"]) = H1 at s1
      by_cases hw : wd = "either" ∨ wd = "again"
      · have er : rowD n (.tup (.str wd :: d1 :: r)) = _ := rest_cont (r := d1 :: r) n4 hw
        refine ifB (by rw [ei]; rcases hw with e | e <;> simp [e]) ?_
        refine ⟨_, rfl, a, _, rfl, .inr (s1.pt.sq hS), by show 2 ≤ sizeLine; decide, fun l nl => ?_⟩
        have s2 := s1.trans (same_new (o := .lst [V.int 2, V.int 3]) nl)
        have hix : atI [V.int 2, V.int 3] (if decide (V.str wd = V.str "either") = true then 1 else 0) = some (.int (((if wd = "either" then 2 else 1) + 1 : Nat) : Int)) := by
          by_cases e : wd = "either"
          · rw [if_pos (decide_eq_true (by rw [e])), if_pos e]
            rfl
          · rw [if_neg (by rw [decide_eq_false (neW e)]; simp), if_neg e]
            rfl
        refine ⟨_, rfl, _, _, _, _, rfl, rfl, s2.pt.sq hS, at0, rfl, .inr ⟨_, rfl, l, _, _, _, rfl, rfl, SqL.of upd_same, hix, rfl, _, rfl, ?_⟩⟩
        generalize upd H1 l (.lst [V.int 2, V.int 3]) = H2 at s2
        rw [hl]
        by_cases hlen : (d1 :: r).length = if wd = "either" then 2 else 1
        · refine ifBF (by rw [List.length_cons, hlen]; simp) ?_
          refine ⟨_, rfl, rfl, _, rfl, ?_⟩
          by_cases h4 : n = 4
          · refine ifD (by rw [h4]; rfl) (k0 ?_ _ s2)
            rw [er, decide_eq_true h4]
            simp
          · refine ifDF (lenN h4) ?_
            rw [er, decide_eq_true hlen, decide_eq_false h4] at k
            refine lc_into ?_
            refine ⟨_, rfl, 1, rfl, a, _, rfl, s2.pt.sq hS, cut1_ne, fun q nq => ⟨q, rfl, ⟨_, .inl (.inl upd_same)⟩, ?_⟩⟩
            rw [cut1]
            have s3 := s2.trans (same_new (o := .tup us) nq)
            have hul := hu.len
            refine lc_overA (p := none) (as := d1 :: r) (Rel := fun _ e y => y = .bl (b12 e)) it_tup hul.symm (fun _ _ _ _ _ h => h) (fun _ h => nomatch h) ?_ (fun H' _ pt => pt.sq (.inl (.inl upd_same))) ?_ ?_
            · rw [hul, hlen]
              split <;> decide
            · intro i z e hz he H' kq pt R kR
              obtain ⟨e', he', tz⟩ := hu.get hz
              rw [he] at he'
              cases he'
              have tz := tz.kd (s3.trans kq.same).kd
              rcases tz.tupOr O with ⟨za, zx, zd, rfl, rfl, hzS, hzt⟩ | ⟨nt2, t2, htt, e2⟩
              · refine ⟨rfl, _, rfl, _, _, _, _, true, rfl, .ty "tuple", tyT hzS, rfl, _, rfl, _, rfl, za, _, rfl, .inr hzS, _, _, rfl, rfl, kR _ _ Kq.refl (Pt.refl _) ?_⟩
                show V.bl (decide ((zx.length : Int) ≤ 12)) = V.bl (decide (zd.length ≤ 12))
                rw [hzt.len]
                congr 1
                rw [decide_eq_decide]
                omega
              · refine ⟨rfl, _, rfl, _, _, _, _, false, rfl, .ty "tuple", htt, e2, _, rfl, kR _ _ Kq.refl (Pt.refl _) ?_⟩
                cases e with
                | tup c => exact absurd rfl (nt2 c)
                | _ => rfl
            · intro D ys H' kq _ _ hD all
              have e := All2.map all
              subst e
              refine ⟨D, (d1 :: r).map b12, rfl, SqL.of (by rw [hD, List.map_map]; rfl), ?_⟩
              exact k _ (s3.trans kq.same)
        · refine ifB (by rw [List.length_cons, Bool.not_eq_true', decide_eq_false_iff_not]; exact lenN (by omega)) (k0 ?_ _ s2)
          rw [er, decide_eq_false hlen]
          rfl
      · refine ifBF (by rw [ei]; simpa using hw) ?_
        have w6 : wd ≠ "either" := fun e => hw (.inl e)
        have w7 : wd ≠ "again" := fun e => hw (.inr e)
        obtain ⟨v1, us2, rfl, t1, hu2⟩ := Tds.consI hu
        have h1 : atI (V.str wd :: v1 :: us2) 1 = some v1 := at_of (j := 1) rfl rfl
        have hl2 : (V.str wd :: v1 :: us2).length = r.length + 2 := hl
        refine ⟨_, rfl, _, _, _, _, rfl, rfl, s1.pt.sq hS, h1, v1, d1, rfl, t1.kd s1.kd, fun H2 s2 => ⟨_, rfl, ?_⟩⟩
        have sa := s1.trans s2
        cases hn : nameD d1 with
        | false =>
          refine k0 ?_ _ sa
          show restD n wd (d1 :: r) = false
          unfold restD
          rw [if_neg w6, if_neg w7]
          repeat' split
          · rcases on3_or (d1 :: r) with ⟨a1, a2, a3, e⟩ | ⟨_, hf⟩
            · cases e
              show (nameD d1 && _) = false
              rw [hn]
              rfl
            · exact hf _
          · rcases on2_or (d1 :: r) with ⟨a1, a2, e⟩ | ⟨_, hf⟩
            · cases e
              show (nameD d1 && _) = false
              rw [hn]
              rfl
            · exact hf _
          · rcases on2_or (d1 :: r) with ⟨a1, a2, e⟩ | ⟨_, hf⟩
            · cases e
              show (nameD d1 && _) = false
              rw [hn]
              rfl
            · exact hf _
          · rcases on1_or (d1 :: r) with ⟨a1, e⟩ | ⟨_, hf⟩
            · cases e
              exact hn
            · exact hf _
          · rcases on1_or (d1 :: r) with ⟨a1, e⟩ | ⟨_, hf⟩
            · cases e
              exact hn
            · exact hf _
          · rfl
        | true =>
        have k1 : ∀ H', Same H H' → Q (.bl (restD n wd (d1 :: r))) H' := k
        clear k k0 h1
        have hS2 := sa.pt.sq hS
        have t1' := t1.kd sa.kd
        have hu2' := hu2.kd sa.kd
        have hnm := hn
        refine ⟨_, rfl, _, _, _, _, rfl, rfl, hS2, at0, rfl, _, rfl, ?_⟩
        by_cases w1 : wd = "note"
        · subst w1
          have er : restD n "note" (d1 :: r) = on3 (fun a b c => nameD a && (nameD b && partsD c)) (d1 :: r) := if_pos rfl
          rw [er] at k1
          refine ifD rfl ?_
          refine ⟨_, rfl, a, _, rfl, .inr hS2, rfl, _, rfl, ?_⟩
          rw [hl2]
          rcases on3_or (d1 :: r) with ⟨a1, a2, a3, e⟩ | ⟨hn3, hf⟩
          rotate_left
          · rw [hf] at k1
            exact ifB (by rw [Bool.not_eq_true', decide_eq_false_iff_not]; exact lenN (m := 4) (by simp at hn3; omega)) (k1 _ sa)
          cases e
          obtain ⟨v2, v3, rfl, t2, t3⟩ := Tds.two hu2'
          have h2 : atI [V.str "note", v1, v2, v3] 2 = some v2 := at_of (j := 2) rfl rfl
          have h3 : atI [V.str "note", v1, v2, v3] 3 = some v3 := at_of (j := 3) rfl rfl
          have k2 : ∀ H', Same H H' → Q (.bl (nameD a2 && partsD a3)) H' := fun H' z => by
            have := k1 H' z
            rw [show on3 (fun a b c => nameD a && (nameD b && partsD c)) [d1, a2, a3] = (nameD d1 && (nameD a2 && partsD a3)) from rfl, hnm, Bool.true_and] at this
            exact this
          refine ifBF rfl ⟨_, rfl, _, _, _, _, rfl, rfl, hS2, h2, v2, a2, rfl, t2, fun H3 s3 => ⟨_, rfl, ?_⟩⟩
          have sb := sa.trans s3
          cases hn2 : nameD a2 with
          | false =>
            rw [hn2] at k2
            exact k2 _ sb
          | true =>
          rw [hn2, Bool.true_and] at k2
          have t3 := t3.kd s3.kd
          have hS3 := s3.pt.sq hS2
          rcases t3.tupOr O with ⟨za, zx, zd, rfl, rfl, hzS, hzt⟩ | ⟨nt2, t2, htt, e2⟩
          rotate_left
          · rw [partsD_no nt2] at k2
            exact ⟨_, rfl, _, _, _, _, rfl, rfl, hS3, h3, _, _, _, _, false, rfl, .ty "tuple", htt, e2, false, rfl, k2 _ sb⟩
          have hzl := hzt.len
          refine ⟨_, rfl, _, _, _, _, rfl, rfl, hS3, h3, _, _, _, _, true, rfl, .ty "tuple", tyT hzS, rfl, true, rfl, _, rfl, _, _, _, _, rfl, rfl, hS3, h3, za, _, rfl, .inr hzS, _, _, rfl, rfl, _, rfl, ?_⟩
          by_cases l3 : zd.length ≤ 3
          · refine ifDF (by omega) ?_
            have e3 : partsD (.tup zd) = (zd.map nameD).all id := by
              show (decide (zd.length ≤ 3) && _) = _
              rw [decide_eq_true l3]
              rfl
            rw [e3] at k2
            refine lc_into ?_
            refine ⟨_, rfl, _, _, _, _, rfl, rfl, hS3, h3, za, rfl, ⟨_, hzS⟩, ?_⟩
            refine lc_overA (p := none) (as := zd) (Rel := fun _ e y => y = .bl (nameD e)) it_tup hzl.symm (fun _ _ _ _ _ h => h) (fun _ h => nomatch h) (Nat.lt_of_le_of_lt (show zx.length ≤ 3 by omega) (by decide)) (fun H' _ pt => pt.sq hzS) ?_ ?_
            · intro i z c hz hc H' kq _ R kR
              obtain ⟨c', hc', tz⟩ := hzt.get hz
              rw [hc] at hc'
              cases hc'
              exact ⟨rfl, _, rfl, z, c, rfl, tz.kd (Kq.same kq).kd, fun H'' sm => kR _ _ (Same.kq sm) (Same.pt sm) rfl⟩
            · intro D ys H' kq _ _ hD all
              have e := All2.map all
              subst e
              exact ⟨D, zd.map nameD, rfl, SqL.of (by rw [hD, List.map_map]; rfl), k2 _ (sb.trans kq.same)⟩
          · have e3 : partsD (.tup zd) = false := by
              show (decide (zd.length ≤ 3) && _) = _
              rw [decide_eq_false l3]
              rfl
            rw [e3] at k2
            exact ifD (by omega) (k2 _ sb)
        refine ifDF (neW w1) ⟨_, rfl, _, _, _, _, rfl, rfl, hS2, at0, rfl, _, rfl, ?_⟩
        by_cases w2 : wd = "copy"
        · subst w2
          have er : restD n "copy" (d1 :: r) = on2 (fun a b => nameD a && nameD b) (d1 :: r) := by
            unfold restD
            rw [if_neg w1, if_pos rfl]
          rw [er] at k1
          refine ifD rfl ⟨_, rfl, a, _, rfl, .inr hS2, rfl, _, rfl, ?_⟩
          rw [hl2]
          rcases on2_or (d1 :: r) with ⟨a1, a2, e⟩ | ⟨hn3, hf⟩
          rotate_left
          · rw [hf] at k1
            exact ifDF (lenN (m := 3) (by simp at hn3; omega)) (k1 _ sa)
          cases e
          obtain ⟨v2, rfl, t2⟩ := Tds.one hu2'
          have h2 : atI [V.str "copy", v1, v2] 2 = some v2 := at_of (j := 2) rfl rfl
          refine ifD rfl ⟨_, rfl, _, _, _, _, rfl, rfl, hS2, h2, v2, a2, rfl, t2, fun H3 s3 => ?_⟩
          have := k1 _ (sa.trans s3)
          rw [show on2 (fun a b => nameD a && nameD b) [d1, a2] = (nameD d1 && nameD a2) from rfl, hnm, Bool.true_and] at this
          exact this
        refine ifDF (neW w2) ⟨_, rfl, _, _, _, _, rfl, rfl, hS2, at0, rfl, _, rfl, ?_⟩
        by_cases w3 : wd = "give"
        · subst w3
          have er : restD n "give" (d1 :: r) = on2 (fun a b => nameD a && intD b) (d1 :: r) := by
            unfold restD
            rw [if_neg w1, if_neg w2, if_pos rfl]
          rw [er] at k1
          refine ifD rfl ⟨_, rfl, a, _, rfl, .inr hS2, rfl, _, rfl, ?_⟩
          rw [hl2]
          rcases on2_or (d1 :: r) with ⟨a1, a2, e⟩ | ⟨hn3, hf⟩
          rotate_left
          · rw [hf] at k1
            exact ifDF (lenN (m := 3) (by simp at hn3; omega)) (k1 _ sa)
          cases e
          obtain ⟨v2, rfl, t2⟩ := Tds.one hu2'
          have h2 : atI [V.str "give", v1, v2] 2 = some v2 := at_of (j := 2) rfl rfl
          refine ifD rfl ⟨_, rfl, _, _, _, _, rfl, rfl, hS2, h2, v2, intD a2, rfl, Td.num O t2, ?_⟩
          have := k1 _ sa
          rw [show on2 (fun a b => nameD a && intD b) [d1, a2] = (nameD d1 && intD a2) from rfl, hnm, Bool.true_and] at this
          exact this
        refine ifDF (neW w3) ⟨_, rfl, _, _, _, _, rfl, rfl, hS2, at0, by decide, fun t4 nt4 => ?_⟩
        have s5 := sa.trans (same_new (o := .tup [V.str "ask", V.str "print"]) nt4)
        have ei2 : inV (V.str wd) [V.str "ask", V.str "print"] = (decide (wd = "ask") || decide (wd = "print")) := by
          show (Str.ofString "ask" == wd || (Str.ofString "print" == wd || false)) = _
          rw [Bool.or_false, BEq.comm, BEq.comm (a := Str.ofString "print")]
          rfl
        refine ⟨_, _, rfl, .inr (.inl (.inl upd_same)), rfl, rfl, _, rfl, ?_⟩
        show if inV (V.str wd) [V.str "ask", V.str "print"] = true then _ else _
        have er : restD n wd (d1 :: r) = ((decide (wd = "ask") || decide (wd = "print")) && decide ((d1 :: r).length = 1)) := by
          unfold restD
          rw [if_neg w1, if_neg w2, if_neg w3]
          have e1 : on1 nameD (d1 :: r) = decide ((d1 :: r).length = 1) := by
            rcases on1_or (d1 :: r) with ⟨a1, e⟩ | ⟨h, hf⟩
            · cases e
              exact hnm
            · rw [hf, decide_eq_false h]
          by_cases w4 : wd = "ask"
          · rw [if_pos w4, e1, decide_eq_true w4]
            simp
          · by_cases w5 : wd = "print"
            · rw [if_neg w4, if_pos w5, e1, decide_eq_true w5]
              simp
            · rw [if_neg w4, if_neg w5, if_neg w6, if_neg w7, decide_eq_false w4, decide_eq_false w5]
              rfl
        rw [er] at k1
        cases hwp : (decide (wd = "ask") || decide (wd = "print")) with
        | false =>
          rw [hwp] at k1
          refine ifBF (by rw [ei2]; exact hwp) ?_
          exact k1 _ s5
        | true =>
          rw [hwp, Bool.true_and] at k1
          refine ifB (by rw [ei2]; exact hwp) ⟨_, rfl, a, _, rfl, .inr (s5.pt.sq hS), rfl, ?_⟩
          rw [hl2]
          have e9 : decide (V.int ((r.length + 2 : Nat) : Int) = V.int 2) = decide ((d1 :: r).length = 1) := by
            rw [decide_eq_decide]
            constructor
            · intro e
              injection e with e
              show r.length + 1 = 1
              omega
            · intro e
              have : r.length = 0 := by simpa using e
              rw [this]
              rfl
          have := k1 _ s5
          rw [← e9] at this
          exact this
end
end K05
set_option Elab.async false
set_option linter.all false
set_option maxRecDepth 100000
set_option maxHeartbeats 4000000
namespace K05
open PySem PySem.Spec PyProof.Rows L2 ZX PM ZR
section
variable {P : Program} {w : World} {K : PySem.W.Frag} {mg : Str → Option Value} {base : Heap}
theorem scBlock_leads : FnScope ["block", "place", "behind", "found", "k", "row", "end"] ["block", "place", "behind"] (defScope sBlock_leads) := ⟨rfl, rfl, rfl, by decide +kernel, rfl, by decide +kernel, by decide +kernel⟩
theorem ok_block_leads1 {n m : Nat} {f : Addr} {fd : FuncData} (F : FnP K "block_leads" sBlock_leads f fd) (T : Bi mg) (hm : 5 ≤ m) (C_rows_of : Cal P w K mg base "rows_of" 5 ["block"] (spRowsOf K 4)) (C_row_leads : Cal P w K mg base "row_leads" m ["row", "place", "behind"] (spRowLeads K n)) : FnOk P w K mg base CX0 (m + 1) f fd ["block", "place", "behind"] (spBlockLeads K n) := by
  refine F.ok scBlock_leads (fun vs H Q E h => ?_) (fun cdv A outer s H vs Q E hr h => ?_)
  · obtain ⟨v, b, p, e, rfl, _⟩ := h
    rfl
  · obtain ⟨v, b, p, e, rfl, tv, hd, hd3, hn, k⟩ := h
    obtain ⟨a, xs, rfl, hS, ht⟩ := tv.tupI
    have hxl : xs.length = b.length := by rw [ht.len, dB_eq, List.length_map]
    have hr_rows_of := hr.mono hm
    have hr_row_leads := hr
    refine ⟨_, PSs.nox (pss_cons (ps_set (i := 3) scBlock_leads.nd rfl (Or.inl rfl) (pe_lst pa_nil))
    (pss_cons (ps_for PassesOwn.never rfl (pi_enumT rfl T.b_enumerate (pa_cons (pv 0) pa_nil)) (pg_tup rfl (pgs_cons (pg_name (i := 4) scBlock_leads.nd rfl (Or.inl rfl)) (pgs_cons (pg_name (i := 5) scBlock_leads.nd rfl (Or.inl rfl)) pgs_nil))) (pss_cons (ps_set (i := 6) scBlock_leads.nd rfl (Or.inl rfl) (pe_op op_add (pv 1) (pe_callB call_len_seq (by rfl) T.b_len (by decide +kernel) (pa_cons (pcal C_rows_of hr_rows_of rfl (pa_cons (pe_tup (pa_cons (pv 5) pa_nil)) pa_nil)) pa_nil))))
      (pss_cons (ps_expr (pe_bm PySem.F.plainAttrs_list PySem.F.slot_list_extend PySem.F.type_list_extend mt_extend (pv 3) (pa_cons (pcal C_row_leads hr_row_leads rfl (pa_cons (pv 5) (pa_cons (pv 1) (pa_cons (pe_ifExp (pt_cmpR op_lt (pe_op op_add (pv 4) pe_int) (pe_callB call_len_seq (by rfl) T.b_len (by decide +kernel) (pa_cons (pv 0) pa_nil)) (nomark _)) (pv 6) (pv 2)) pa_nil)))) pa_nil)))
      (pss_one (ps_set (i := 1) scBlock_leads.nd rfl (Or.inl rfl) (pv 6))))))
    (pss_one (ps_ret (pv 3))))), ?_⟩
    refine ⟨by decide, fun l nl => ?_⟩
    refine ⟨_, rfl, a, xs, rfl, (Pt.new nl).sq hS, ?_⟩
    refine for_it (walk_enumT (xs := xs)) (fun i σ' H' => ∃ us don pl y4 y5 y6, σ' = [some (.ref a), some (.int (pl : Nat)), some (.int e), some (.ref l), y4, y5, y6] ∧ Same H H' ∧ H' l = some (.lst us) ∧ Tvs K H' us (List.map encL don) ∧ don ++ leadsB (b.drop i) pl e = leadsB b p e)
      ⟨[], [], p, _, _, _, rfl, same_new nl, upd_same, .nil, rfl⟩ ?_ ?_ ?_
    · rintro i σ' H' _ ⟨_, _, _, _, _, _, _, sm, _⟩
      exact sm.pt.sq hS
    · rintro i x σ' H' H2 hi ⟨us, don, pl, y4, y5, y6, rfl, sm, hl, hu, he⟩ ⟨t, x1, x2, rfl, nt, rfl, e1, e2⟩
      cases e1
      have s2 := same_new (o := .tup [.int (i : Nat), x2]) nt
      obtain ⟨r, hr, tr⟩ := (ht.pt (sm.trans s2).pt).nthR e2
      have hil : i < b.length := by omega
      have hdr : b.drop i = r :: b.drop (i + 1) := by
        rw [List.drop_eq_getElem_cons hil]
        rw [List.getElem?_eq_getElem hil] at hr
        cases hr
        rfl
      have hrm : r ∈ b := List.mem_of_getElem? hr
      have hdR := depB_mem hrm
      have hrl : (rowsR r).length ≤ (rowsB b).length := by
        have := fm_le1 (f := rowsR) hr
        rw [List.length_append, ← rowsB_eq b] at this
        omega
      rw [hdr, leadsB] at he
      have hlen := congrArg List.length he
      rw [leadsB_len, List.length_append, List.length_append, leadsR_len] at hlen
      have hul := hu.len
      rw [List.length_map] at hul
      refine ⟨t, _, rfl, .inl (.inl upd_same), rfl, _, _, rfl, _, _, rfl, rfl, ?_⟩
      have hdep1 : depB [r] < 4 := by
        show max (depR r) 0 < 4
        omega
      have hrow1 : rowsB [r] = rowsR r := List.append_nil _
      refine ⟨_, rfl, _, rfl, by show 1 ≤ sizeLine; decide, fun t3 nt3 => ⟨_, [r], rfl, .tup (.inl (.inl upd_same)) (.cons (tr.pt (Pt.new nt3)) .nil), hdep1, by rw [hrow1]; omega, fun l4 zs H4 s4 n4 h4 t4 => ?_⟩⟩
      have s24 : Same H' H4 := (s2.trans (same_new nt3)).trans s4
      have hzl := t4.len
      rw [List.length_map, hrow1] at hzl
      refine ⟨l4, _, rfl, .inl (SqL.of h4), _, _, rfl, rfl, ?_⟩
      refine ⟨_, rfl, .inl ⟨rfl, _, SqL.of (s24 _ _ hl)⟩, _, rfl, _, rfl, _, rfl, _, _, rfl, rfl, _, rfl, a, _, rfl, .inr ((sm.trans s24).pt.sq hS), _, _, rfl, rfl, _, rfl, ?_⟩
      refine rd_ifE (fun R h => ⟨_, rfl, h⟩) (fun R h => ⟨_, rfl, h⟩) ?_
      have hv : (if decide (((i : Nat) : Int) + 1 < (xs.length : Int)) then V.int ((pl : Int) + (zs.length : Int)) else V.int (e : Int)) = V.int ((if (b.drop (i + 1)).isEmpty then e else pl + (rowsR r).length : Nat) : Int) := by
        rw [hzl]
        by_cases hlt : i + 1 < b.length
        · rw [decide_eq_true (by omega), if_pos rfl]
          have : (b.drop (i + 1)).isEmpty = false := by
            cases hb : b.drop (i + 1) with
            | nil =>
              have := congrArg List.length hb
              rw [List.length_drop] at this
              simp at this
              omega
            | cons _ _ => rfl
          rw [this]
          simp
        · rw [decide_eq_false (by omega), List.drop_eq_nil_of_le (by omega)]
          rfl
      refine ⟨x2, r, pl, _, by rw [← hv]; rfl, (tr.pt (Pt.new nt3)).pt s4.pt, by omega, by omega, by omega, fun l5 ws H5 s5 n5 h5 t5 => ?_⟩
      have hwl := t5.len
      rw [List.length_map, leadsR_len] at hwl
      refine ⟨l, l5, us, ws, rfl, rfl, s5 _ _ (s24 _ _ hl), h5, Nat.le_trans (by omega : us.length + ws.length ≤ 1000) (by decide), ?_⟩
      have pt := Pt.lst (o := .lst (us ++ ws)) (s5 _ _ (s24 _ _ hl))
      refine ⟨_, rfl, us ++ ws, don ++ leadsR r pl (if (b.drop (i + 1)).isEmpty then e else pl + (rowsR r).length), pl + (rowsR r).length, some (.int (i : Nat)), some x2, some (.int ((pl : Int) + (zs.length : Int))), ?_, ((sm.trans s24).trans s5).put nl, upd_same, ?_, ?_⟩
      · show [_, some (V.int ((pl : Int) + (zs.length : Int))), _, _, _, _, _] = _
        rw [hzl]
        rfl
      · rw [List.map_append]
        exact Tvs.app ((hu.pt (s24.trans s5).pt).pt pt) (t5.pt pt)
      · rw [List.append_assoc]
        exact he
    · rintro σ' H' ⟨us, don, pl, y4, y5, y6, rfl, sm, hl, hu, he⟩
      rw [hxl, List.drop_length, leadsB, List.append_nil] at he
      subst he
      exact ⟨_, rfl, k l us H' sm nl hl hu⟩
theorem scRow_leads : FnScope ["row", "place", "behind", "first", "second", "begins"] ["row", "place", "behind"] (defScope sRow_leads) := ⟨rfl, rfl, rfl, by decide +kernel, rfl, by decide +kernel, by decide +kernel⟩
theorem isE_of {x1 : List V} {H : Hp} {b1 : List Rw} (h : Tvs K H x1 (dB b1)) : (!x1.isEmpty) = !b1.isEmpty := by
  cases b1 with
  | nil => cases h; rfl
  | cons r b => cases h; rfl
theorem pick_eq {c : Bool} {x y : Nat} : (if !c then V.int (x : Int) else V.int (y : Int)) = V.int ((if c then y else x : Nat) : Int) := by
  cases c <;> rfl
theorem ok_row_leads0 {f : Addr} {fd : FuncData} (k : Nat) : FnOk P w K mg base CX0 k f fd ["row", "place", "behind"] (spRowLeads K 0) :=
  ⟨fun vs H Q E h => by
    obtain ⟨_, _, _, _, _, _, h, _⟩ := h
    exact absurd h (Nat.not_lt_zero _), fun A outer s H args us vs Q E hr e0 hb r h => by
    obtain ⟨_, _, _, _, _, _, h, _⟩ := h
    exact absurd h (Nat.not_lt_zero _)⟩
theorem ok_row_leads1 {n m : Nat} {f : Addr} {fd : FuncData} (F : FnP K "row_leads" sRow_leads f fd) (T : Bi mg) (hm : 5 ≤ m) (C_rows_of : Cal P w K mg base "rows_of" 5 ["block"] (spRowsOf K 4)) (C_block_leads : Cal P w K mg base "block_leads" m ["block", "place", "behind"] (spBlockLeads K n)) : FnOk P w K mg base CX0 (m + 1) f fd ["row", "place", "behind"] (spRowLeads K (n + 1)) := by
  refine F.ok scRow_leads (fun vs H Q E h => ?_) (fun cdv A outer s H vs Q E hr h => ?_)
  · obtain ⟨v, r, p, e, rfl, _⟩ := h
    rfl
  · obtain ⟨v, r, p, e, rfl, tv, hd, hd3, hn, k⟩ := h
    obtain ⟨a, tl, rfl, hS, ht⟩ := tv.rowI
    have hr_rows_of := hr.mono hm
    have hr_block_leads := hr
    refine ⟨_, PSs.nox (pss_cons (ps_if (pt_cmpR op_eq (pe_ix ix_tup (pv 0) pe_int (fun _ _ => rfl)) pe_str (nomark _)) (pss_cons (ps_set (i := 3) scRow_leads.nd rfl (Or.inl rfl) (pe_op op_add (pv 1) pe_int))
      (pss_cons (ps_set (i := 4) scRow_leads.nd rfl (Or.inl rfl) (pe_op op_add (pv 3) (pe_callB call_len_seq (by rfl) T.b_len (by decide +kernel) (pa_cons (pcal C_rows_of hr_rows_of rfl (pa_cons (pe_ix ix_tup (pv 0) pe_int (fun _ _ => rfl)) pa_nil)) pa_nil))))
      (pss_cons (ps_set (i := 5) scRow_leads.nd rfl (Or.inl rfl) (pe_tup (pa_cons (pe_ifExp (pt_truth (pe_ix ix_tup (pv 0) pe_int (fun _ _ => rfl)) (by intro _; rfl)) (pv 3) (pv 2)) (pa_cons (pe_ifExp (pt_truth (pe_ix ix_tup (pv 0) pe_int (fun _ _ => rfl)) (by intro _; rfl)) (pv 4) (pv 2)) pa_nil))))
      (pss_one (ps_ret (pe_op op_cat (pe_op op_cat (pe_lst (pa_cons (pv 5) pa_nil)) (pcal C_block_leads hr_block_leads rfl (pa_cons (pe_ix ix_tup (pv 0) pe_int (fun _ _ => rfl)) (pa_cons (pv 3) (pa_cons (pv 2) pa_nil))))) (pcal C_block_leads hr_block_leads rfl (pa_cons (pe_ix ix_tup (pv 0) pe_int (fun _ _ => rfl)) (pa_cons (pv 4) (pa_cons (pv 2) pa_nil)))))))))) pss_nil)
    (pss_cons (ps_if (pt_cmpR op_eq (pe_ix ix_tup (pv 0) pe_int (fun _ _ => rfl)) pe_str (nomark _)) (pss_cons (ps_set (i := 5) scRow_leads.nd rfl (Or.inl rfl) (pe_tup (pa_cons (pe_ifExp (pt_truth (pe_ix ix_tup (pv 0) pe_int (fun _ _ => rfl)) (by intro _; rfl)) (pe_op op_add (pv 1) pe_int) (pv 1)) (pa_cons (pv 2) pa_nil))))
      (pss_one (ps_ret (pe_op op_cat (pe_lst (pa_cons (pv 5) pa_nil)) (pcal C_block_leads hr_block_leads rfl (pa_cons (pe_ix ix_tup (pv 0) pe_int (fun _ _ => rfl)) (pa_cons (pe_op op_add (pv 1) pe_int) (pa_cons (pv 1) pa_nil)))))))) pss_nil)
    (pss_one (ps_ret (pe_lst (pa_cons (pe_tup (pa_cons (pv 2) pa_nil)) pa_nil)))))), ?_⟩
    have one : leadsR r p e = [[e]] → tRet (tLst (tCons (tTup (tCons (tVar 2) tNil)) tNil)) { nx := fun _ H' => Q .non H', rt := Q } (L2.start ["row", "place", "behind", "first", "second", "begins"] [.ref a, .int p, .int e]) H := fun he => by
      refine ⟨_, rfl, by show 1 ≤ sizeLine; decide, fun t nt => ⟨by show 1 ≤ sizeLine; decide, fun l nl => k l [.ref t] _ ((same_new nt).trans (same_new nl)) ((same_new nt).free nl) upd_same ?_⟩⟩
      rw [he]
      exact .cons (.tup (.inl (.inl (by rw [upd_ne (ne_of_none upd_same nl)]; exact upd_same))) (.cons (.int _) .nil)) .nil
    refine ⟨_, rfl, _, _, _, _, rfl, rfl, hS, at0, rfl, _, rfl, ?_⟩
    cases r with
    | note x o ps => exact ifDF (neS (a := "note") (b := "either") (by decide +kernel)) ⟨_, rfl, _, _, _, _, rfl, rfl, hS, at0, rfl, _, rfl, ifDF (neS (a := "note") (b := "again") (by decide +kernel)) (one rfl)⟩
    | copy x y => exact ifDF (neS (a := "copy") (b := "either") (by decide +kernel)) ⟨_, rfl, _, _, _, _, rfl, rfl, hS, at0, rfl, _, rfl, ifDF (neS (a := "copy") (b := "again") (by decide +kernel)) (one rfl)⟩
    | give x i => exact ifDF (neS (a := "give") (b := "either") (by decide +kernel)) ⟨_, rfl, _, _, _, _, rfl, rfl, hS, at0, rfl, _, rfl, ifDF (neS (a := "give") (b := "again") (by decide +kernel)) (one rfl)⟩
    | ask x => exact ifDF (neS (a := "ask") (b := "either") (by decide +kernel)) ⟨_, rfl, _, _, _, _, rfl, rfl, hS, at0, rfl, _, rfl, ifDF (neS (a := "ask") (b := "again") (by decide +kernel)) (one rfl)⟩
    | prt x => exact ifDF (neS (a := "print") (b := "either") (by decide +kernel)) ⟨_, rfl, _, _, _, _, rfl, rfl, hS, at0, rfl, _, rfl, ifDF (neS (a := "print") (b := "again") (by decide +kernel)) (one rfl)⟩
    | either b1 b2 =>
      obtain ⟨v1, v2, rfl, t1, t2⟩ := ht.two
      obtain ⟨a1, x1, rfl, hS1, ht1⟩ := t1.tupI
      obtain ⟨a2, x2, rfl, hS2, ht2⟩ := t2.tupI
      have hdd : depB b1 < n ∧ depB b2 < n ∧ depB b1 ≤ 2 ∧ depB b2 ≤ 2 := by
        have hd : max (depB b1) (depB b2) + 1 < n + 1 := hd
        have hd3 : max (depB b1) (depB b2) + 1 ≤ 3 := hd3
        omega
      have hnn : (rowsB b1).length + (rowsB b2).length + 1 ≤ 1000 := by
        have hn : ((rowsB b1 ++ rowsB b2).length + 1) ≤ 1000 := hn
        rw [List.length_append] at hn
        omega
      refine ifD rfl ⟨_, rfl, _, _, rfl, rfl, ?_⟩
      refine ⟨_, rfl, _, rfl, _, _, _, _, rfl, rfl, hS, rfl, _, b1, rfl, t1, by omega, by omega, fun l us H1 s1 nl hl hu => ⟨l, _, rfl, .inl (SqL.of hl), _, _, rfl, rfl, ?_⟩⟩
      have hul := hu.len
      rw [List.length_map] at hul
      refine ⟨_, rfl, _, _, _, _, rfl, rfl, s1.pt.sq hS, rfl, _, .inr (.inl ⟨_, s1.pt.sq hS1, rfl⟩), rd_ifE (fun R h => ⟨_, rfl, h⟩) (fun R h => ⟨_, rfl, h⟩) ?_⟩
      refine ⟨_, rfl, _, _, _, _, rfl, rfl, s1.pt.sq hS, rfl, _, .inr (.inl ⟨_, s1.pt.sq hS2, rfl⟩), rd_ifE (fun R h => ⟨_, rfl, h⟩) (fun R h => ⟨_, rfl, h⟩) ?_⟩
      refine ⟨by show 2 ≤ sizeLine; decide, fun t nt => ?_⟩
      have e1 : (if (!x1.isEmpty) then V.int ((p : Int) + 1) else V.int (e : Int)) = V.int ((if b1.isEmpty then e else p + 1 : Nat) : Int) := by
        rw [isE_of ht1]
        exact pick_eq
      have e2 : (if (!x2.isEmpty) then V.int ((p : Int) + 1 + (us.length : Int)) else V.int (e : Int)) = V.int ((if b2.isEmpty then e else p + 1 + (rowsB b1).length : Nat) : Int) := by
        rw [isE_of ht2, ← hul]
        exact pick_eq
      have ht1t : ∀ H', Pt (upd H1 t (.tup [if (!x1.isEmpty) then V.int ((p : Int) + 1) else V.int (e : Int), if (!x2.isEmpty) then V.int ((p : Int) + 1 + (us.length : Int)) else V.int (e : Int)])) H' → Tv K H' (.ref t) (encL [if b1.isEmpty then e else p + 1, if b2.isEmpty then e else p + 1 + (rowsB b1).length]) := fun H' pt => by
        refine .tup (pt.sq (.inl (.inl upd_same))) ?_
        rw [e1, e2]
        exact .cons (.int _) (.cons (.int _) .nil)
      generalize hT : (HO.tup [if (!x1.isEmpty) then V.int ((p : Int) + 1) else V.int (e : Int), if (!x2.isEmpty) then V.int ((p : Int) + 1 + (us.length : Int)) else V.int (e : Int)]) = T1 at ht1t
      have sT : Same H (upd H1 t T1) := s1.trans (same_new nt)
      subst hT
      refine ⟨_, rfl, by show 1 ≤ sizeLine; decide, fun l0 nl0 => ?_⟩
      have s0 := sT.trans (same_new (o := .lst [.ref t]) nl0)
      refine ⟨_, rfl, _, _, _, _, rfl, rfl, s0.pt.sq hS, rfl, _, rfl, _, rfl, _, b1, p + 1, e, rfl, t1.pt s0.pt, by omega, by omega, by omega, fun l1 us1 H2 s2 n2 hl1 hu1 => ?_⟩
      have hl1n := hu1.len
      rw [List.length_map, leadsB_len] at hl1n
      refine ⟨l0, l1, _, us1, rfl, rfl, s2 _ _ upd_same, hl1, Nat.le_trans (show 1 + us1.length ≤ 1000 by omega) (by decide), fun l2 nl2 => ?_⟩
      have s02 := (s0.trans s2).trans (same_new (o := .lst ([.ref t] ++ us1)) nl2)
      refine ⟨_, rfl, _, _, _, _, rfl, rfl, s02.pt.sq hS, rfl, _, rfl, _, rfl, _, b2, p + 1 + (rowsB b1).length, e, by rw [← hul]; rfl, t2.pt s02.pt, by omega, by omega, by omega, fun l3 us3 H3 s3 n3 hl3 hu3 => ?_⟩
      have hl3n := hu3.len
      rw [List.length_map, leadsB_len] at hl3n
      refine ⟨l2, l3, _, us3, rfl, rfl, s3 _ _ upd_same, hl3, Nat.le_trans (m := 1000) (by rw [List.length_append]; show 1 + us1.length + us3.length ≤ 1000; omega) (by decide), fun l4 nl4 => ?_⟩
      have pA := (same_new (o := .lst [.ref t]) nl0).pt
      have pB := (s2.trans (same_new (o := .lst ([.ref t] ++ us1)) nl2)).pt
      have pC := (s3.trans (same_new (o := .lst (([.ref t] ++ us1) ++ us3)) nl4)).pt
      refine k l4 _ _ ((s02.trans s3).trans (same_new nl4)) ((s02.trans s3).free nl4) upd_same ?_
      rw [leadsR, List.map_cons, List.map_append]
      exact .cons (ht1t _ ((pA.trans pB).trans pC)) (Tvs.app (hu1.pt ((same_new (o := .lst ([.ref t] ++ us1)) nl2).pt.trans pC)) (hu3.pt (same_new nl4).pt))
    | again b1 =>
      obtain ⟨v1, rfl, t1⟩ := ht.one
      obtain ⟨a1, x1, rfl, hS1, ht1⟩ := t1.tupI
      have hdd : depB b1 < n ∧ depB b1 ≤ 2 := by
        have hd : depB b1 + 1 < n + 1 := hd
        have hd3 : depB b1 + 1 ≤ 3 := hd3
        omega
      have hnn : (rowsB b1).length + 1 ≤ 1000 := hn
      refine ifDF (neS (a := "again") (b := "either") (by decide +kernel)) ⟨_, rfl, _, _, _, _, rfl, rfl, hS, at0, rfl, _, rfl, ifD rfl ?_⟩
      refine ⟨_, rfl, _, _, _, _, rfl, rfl, hS, rfl, _, .inr (.inl ⟨_, hS1, rfl⟩), rd_ifE (fun R h => ⟨_, rfl, _, _, rfl, rfl, h⟩) (fun R h => ⟨_, rfl, h⟩) ?_⟩
      refine ⟨_, rfl, by show 2 ≤ sizeLine; decide, fun t nt => ?_⟩
      have e1 : (if (!x1.isEmpty) then V.int ((p : Int) + 1) else V.int (p : Int)) = V.int ((if b1.isEmpty then p else p + 1 : Nat) : Int) := by
        rw [isE_of ht1]
        exact pick_eq
      have ht1t : ∀ H', Pt (upd H t (.tup [if (!x1.isEmpty) then V.int ((p : Int) + 1) else V.int (p : Int), V.int (e : Int)])) H' → Tv K H' (.ref t) (encL [if b1.isEmpty then p else p + 1, e]) := fun H' pt => by
        refine .tup (pt.sq (.inl (.inl upd_same))) ?_
        rw [e1]
        exact .cons (.int _) (.cons (.int _) .nil)
      have sT := same_new (o := .tup [if (!x1.isEmpty) then V.int ((p : Int) + 1) else V.int (p : Int), V.int (e : Int)]) nt
      refine ⟨_, rfl, by show 1 ≤ sizeLine; decide, fun l0 nl0 => ?_⟩
      have s0 := sT.trans (same_new (o := .lst [.ref t]) nl0)
      refine ⟨_, rfl, _, _, _, _, rfl, rfl, s0.pt.sq hS, rfl, _, rfl, _, _, rfl, rfl, _, rfl, _, b1, p + 1, p, rfl, t1.pt s0.pt, by omega, by omega, by omega, fun l1 us1 H2 s2 n2 hl1 hu1 => ?_⟩
      have hl1n := hu1.len
      rw [List.length_map, leadsB_len] at hl1n
      refine ⟨l0, l1, _, us1, rfl, rfl, s2 _ _ upd_same, hl1, Nat.le_trans (show 1 + us1.length ≤ 1000 by omega) (by decide), fun l2 nl2 => ?_⟩
      have pA := ((same_new (o := .lst [.ref t]) nl0).trans (s2.trans (same_new (o := .lst ([.ref t] ++ us1)) nl2))).pt
      refine k l2 _ _ ((s0.trans s2).trans (same_new nl2)) ((s0.trans s2).free nl2) upd_same ?_
      rw [leadsR, List.map_cons]
      exact .cons (ht1t _ pA) (hu1.pt (same_new nl2).pt)
end
end K05
set_option Elab.async false
set_option linter.all false
set_option maxRecDepth 100000
set_option maxHeartbeats 4000000
namespace PM
open PySem PySem.Spec PyProof.Rows L2 ZX ZR
theorem Pt.ins {H : Hp} {a C dx : Addr} {fs : List (Str × V)} {o : HO} (h : H a = some (.ins C dx fs)) : Pt H (upd H a o) := fun b ys hb => by
  have ne : b ≠ a := fun e => by
    subst e
    rcases hb with hb | ⟨o, hb⟩ <;> rw [h] at hb <;> cases hb
  exact hb.elim (fun h => .inl (by rw [upd_ne ne]; exact h)) fun ⟨o, h⟩ => .inr ⟨o, by rw [upd_ne ne]; exact h⟩
theorem _root_.L2.Same.kp {p : Addr} {H H' : Hp} (s : Same H H') : Kp p H H' := fun b u _ e => s b u e
theorem _root_.ZX.Kp.put {p : Addr} {H H' : Hp} {o : HO} (k : Kp p H H') : Kp p H (upd H' p o) := fun b u n e => by
  rw [upd_ne n]
  exact k b u n e
theorem _root_.ZX.Kp.same {p : Addr} {H H1 H2 : Hp} (k : Kp p H H1) (s : Same H1 H2) : Kp p H H2 := fun b u n e => s _ _ (k b u n e)
/-- what the class of programs must be -/
structure PrC (K : PySem.W.Frag) (C : Addr) : Prop where
  c : Cls K C
  n1 : NoAttr K C "block"
  n2 : NoAttr K C "_rows"
  n3 : NoAttr K C "_leads"
  n4 : NoAttr K C "_names"
/-- all next places, the end's too -/
def leadsP (b : List Rw) : List (List Nat) := leadsB b 0 (rowsB b).length ++ [[]]
theorem leadsP_len (b : List Rw) : (leadsP b).length = (rowsB b).length + 1 := by
  rw [leadsP, List.length_append, leadsB_len]
  rfl
/-- a program of the block b at x -/
def PrAt (K : PySem.W.Frag) (C : Addr) (H : Hp) (x : Addr) (b : List Rw) : Prop := ∃ (dx : Addr) (v : V) (ra na la : Addr) (rs ls : List V) (ys : List Str), H x = some (.ins C dx [("block", v), ("_rows", .ref ra), ("_names", .ref na), ("_leads", .ref la)]) ∧ BV K H v b ∧ Good b ∧
  SqT K H ra rs ∧ Tvs K H rs ((rowsB b).map dR) ∧ SqT K H la ls ∧ Tvs K H ls ((leadsP b).map encL) ∧ SqT K H na (ys.map V.str) ∧ IsLot ys ((rowsB b).flatMap namesR)
theorem PrAt.up {K : PySem.W.Frag} {C : Addr} {H H' : Hp} {x : Addr} {b : List Rw} (h : PrAt K C H x b) (e : ∀ o, H x = some o → H' x = some o) (pt : Pt H H') : PrAt K C H' x b := by
  obtain ⟨dx, v, ra, na, la, rs, ls, ys, h1, h2, g, h3, h4, h5, h6, h7, h8⟩ := h
  exact ⟨dx, v, ra, na, la, rs, ls, ys, e _ h1, h2.pt pt, g, pt.sq h3, h4.pt pt, pt.sq h5, h6.pt pt, pt.sq h7, h8⟩
theorem PrAt.same {K : PySem.W.Frag} {C : Addr} {H H' : Hp} {x : Addr} {b : List Rw} (h : PrAt K C H x b) (s : Same H H') : PrAt K C H' x b := h.up (fun o e => s _ _ e) s.pt
end PM
namespace K05
open PySem PySem.Spec PyProof.Rows L2 ZX PM ZR
def spInit (K : PySem.W.Frag) (C : Addr) : Sp := fun vs H Q _ => ∃ (x dx : Addr) (v : V) (b : List Rw), vs = [.ref x, v] ∧ H x = some (.ins C dx []) ∧ BV K H v b ∧ Good b ∧ ∀ H', Kp x H H' → Pt H H' → PrAt K C H' x b → Q .non H'
section
variable {P : Program} {w : World} {K : PySem.W.Frag} {mg : Str → Option Value} {base : Heap}
theorem scProgramInit : FnScope ["self", "block", "place"] ["self", "block"] (defScope sProgramInit) := ⟨rfl, rfl, rfl, by decide +kernel, rfl, by decide +kernel, by decide +kernel⟩
theorem ok_init {C f : Addr} {fd : FuncData} (F : FunD K "__init__" "Program.__init__" (defArgs sProgramInit) (defBody sProgramInit) (defScope sProgramInit) [] [] f fd) (T : Bi mg) (c : PrC K C) (C_bad_place : Cal P w K mg base "bad_place" 6 ["block", "many"] (spBad K)) (C_rows_of : Cal P w K mg base "rows_of" 5 ["block"] (spRowsOf K 4)) (C_all_names : Cal P w K mg base "all_names" 3 ["rows"] (spAllNames K)) (C_block_leads : Cal P w K mg base "block_leads" 15 ["block", "place", "behind"] (spBlockLeads K 4)) : FnOk P w K mg base CX0 16 f fd ["self", "block"] (spInit K C) := by
  refine F.ok scProgramInit (fun vs H Q E h => ?_) (fun cdv A outer s H vs Q E hr h => ?_)
  · obtain ⟨x, dx, v, b, rfl, _⟩ := h
    rfl
  · obtain ⟨x, dx, v, b, rfl, hx, tv, G, k⟩ := h
    have hr_bad_place := hr.mono (show 6 ≤ 15 by decide)
    have hr_rows_of := hr.mono (show 5 ≤ 15 by decide)
    have hr_all_names := hr.mono (show 3 ≤ 15 by decide)
    have hr_block_leads := hr
    refine ⟨_, PSs.nox (pss_cons (ps_set (i := 2) scProgramInit.nd rfl (Or.inl rfl) (pcal C_bad_place hr_bad_place rfl (pa_cons (pv 1) (pa_cons pe_int pa_nil))))
    (pss_cons (ps_if (pt_cmpR op_notN (pv 2) pe_non (nomark _)) (pss_one ps_never) pss_nil)
    (pss_cut (ps_fld (pv 0) (pv 1) rfl)
    (pss_cut (ps_fld (pv 0) (pe_callTy call_tuple_of (by rfl) T.b_tuple (by decide +kernel) (pa_cons (pcal C_rows_of hr_rows_of rfl (pa_cons (pv 1) pa_nil)) pa_nil)) rfl)
    (pss_cut (ps_fld (pv 0) (pcal C_all_names hr_all_names rfl (pa_cons (pe_fld (pv 0) rfl) pa_nil)) rfl)
    (pss_one (ps_fld (pv 0) (pe_callTy call_tuple_of (by rfl) T.b_tuple (by decide +kernel) (pa_cons (pe_op op_cat (pcal C_block_leads hr_block_leads rfl (pa_cons (pv 1) (pa_cons pe_int (pa_cons (pe_callB call_len_seq (by rfl) T.b_len (by decide +kernel) (pa_cons (pe_fld (pv 0) rfl) pa_nil)) pa_nil)))) (pe_lst (pa_cons (pe_tup pa_nil) pa_nil))) pa_nil)) rfl))))))), ?_⟩
    have hdep := ok_depB G.ok (by decide)
    have l30 := G.l30
    refine ⟨_, rfl, v, b, 0, rfl, tv, G, fun H1 s1 => ⟨_, rfl, rfl, false, rfl, ?_⟩⟩
    have hx1 := s1 _ _ hx
    refine ⟨fun σ' H' => σ' = [some (.ref x), some v, some .non] ∧ Kp x H H' ∧ Pt H H' ∧ H' x = some (.ins C dx [("block", v)]), ?_, ?_⟩
    · refine ⟨_, rfl, _, rfl, x, C, dx, _, rfl, hx1, c.c, c.n1, (by decide), ?_⟩
      exact ⟨rfl, (Same.kp s1).put, s1.pt.trans (Pt.ins hx1), upd_same⟩
    rintro σ2 H2 ⟨rfl, kp2, p2, hx2⟩
    refine ⟨fun σ' H' => ∃ ra rs, σ' = [some (.ref x), some v, some .non] ∧ Kp x H H' ∧ Pt H H' ∧ H' x = some (.ins C dx [("block", v), ("_rows", .ref ra)]) ∧ SqT K H' ra rs ∧ Tvs K H' rs ((rowsB b).map dR), ?_, ?_⟩
    · refine ⟨_, rfl, v, b, rfl, tv.pt p2, by omega, by omega, fun l us H3 s3 nl hl hu => ?_⟩
      refine ⟨l, us, rfl, .inl ⟨SqL.of hl, fun t nt => ?_⟩⟩
      have s4 := s3.trans (same_new (o := .tup us) nt)
      have hx4 := s4 _ _ hx2
      refine ⟨_, rfl, x, C, dx, _, rfl, hx4, c.c, c.n2, (by show 1 < 1000; decide), ?_⟩
      have p5 := Pt.ins (o := .ins C dx (putF "_rows" (.ref t) [("block", v)])) hx4
      exact ⟨t, us, rfl, (kp2.same s4).put, (p2.trans s4.pt).trans p5, upd_same, p5.sq (.inl (.inl upd_same)), (hu.pt (same_new (o := .tup us) nt).pt).pt p5⟩
    rintro σ3 H3 ⟨ra, rs, rfl, kp3, p3, hx3, hra, hrs⟩
    have hrl := hrs.len
    rw [List.length_map] at hrl
    refine ⟨fun σ' H' => ∃ na ys, σ' = [some (.ref x), some v, some .non] ∧ Kp x H H' ∧ Pt H H' ∧ H' x = some (.ins C dx [("block", v), ("_rows", .ref ra), ("_names", .ref na)]) ∧ SqT K H' ra rs ∧ Tvs K H' rs ((rowsB b).map dR) ∧ SqT K H' na (ys.map V.str) ∧ IsLot ys ((rowsB b).flatMap namesR), ?_, ?_⟩
    · refine ⟨_, rfl, x, C, dx, _, _, rfl, hx3, c.c, c.n2, rfl, ra, rs, rowsB b, rfl, .inr hra, hrs, ok_names_B G.ok, by omega, fun na ys H4 s4 nn ly hn => ?_⟩
      have hx4 := s4 _ _ hx3
      refine ⟨_, rfl, x, C, dx, _, rfl, hx4, c.c, c.n4, (by show 2 < 1000; decide), ?_⟩
      have p5 := Pt.ins (o := .ins C dx (putF "_names" (.ref na) [("block", v), ("_rows", .ref ra)])) hx4
      exact ⟨na, ys, rfl, (kp3.same s4).put, (p3.trans s4.pt).trans p5, upd_same, (s4.pt.trans p5).sq hra, hrs.pt (s4.pt.trans p5), p5.sq (.inl (.inl hn)), ly⟩
    rintro σ4 H4 ⟨na, ys, rfl, kp4, p4, hx4, hra, hrs, hna, ly⟩
    refine ⟨_, rfl, _, rfl, x, C, dx, _, _, rfl, hx4, c.c, c.n2, rfl, ra, rs, rfl, .inr hra, v, b, 0, (rowsB b).length, by rw [← hrl]; rfl, tv.pt p4, by omega, by omega, by omega, fun l6 ls H6 s6 n6 h6 t6 => ?_⟩
    have hll := t6.len
    rw [List.length_map, leadsB_len] at hll
    refine ⟨by decide, fun t0 nt0 => ⟨by show 1 ≤ sizeLine; decide, fun l7 nl7 => ?_⟩⟩
    have s7 := (s6.trans (same_new (o := .tup []) nt0)).trans (same_new (o := .lst [.ref t0]) nl7)
    refine ⟨l6, l7, ls, _, rfl, rfl, ((same_new (o := .tup []) nt0).trans (same_new (o := .lst [.ref t0]) nl7)) _ _ h6, upd_same, Nat.le_trans (show ls.length + 1 ≤ 1000 by omega) (by decide), fun l8 nl8 => ?_⟩
    refine ⟨l8, _, rfl, .inl ⟨SqL.of upd_same, fun t9 nt9 => ?_⟩⟩
    have s9 := (s7.trans (same_new (o := .lst (ls ++ [.ref t0])) nl8)).trans (same_new (o := .tup (ls ++ [.ref t0])) nt9)
    have hx9 := s9 _ _ hx4
    refine ⟨_, rfl, x, C, dx, _, rfl, hx9, c.c, c.n3, (by show 3 < 1000; decide), ?_⟩
    have p10 := Pt.ins (o := .ins C dx (putF "_leads" (.ref t9) [("block", v), ("_rows", .ref ra), ("_names", .ref na)])) hx9
    have pz := s9.pt.trans p10
    refine k _ ((kp4.same s9).put) (p4.trans pz) ⟨dx, v, ra, na, t9, rs, ls ++ [.ref t0], ys, ?_, tv.pt (p4.trans pz), G, pz.sq hra, hrs.pt pz, p10.sq (.inl (.inl upd_same)), ?_, pz.sq hna, ly⟩
    · rw [upd_same]
      rfl
    · rw [leadsP, List.map_append]
      have py := (((same_new (o := .tup []) nt0).trans (same_new (o := .lst [.ref t0]) nl7)).trans ((same_new (o := .lst (ls ++ [.ref t0])) nl8).trans (same_new (o := .tup (ls ++ [.ref t0])) nt9))).pt.trans p10
      refine Tvs.app (t6.pt py) (.cons (.tup ?_ .nil) .nil)
      exact (((same_new (o := .lst [.ref t0]) nl7).trans ((same_new (o := .lst (ls ++ [.ref t0])) nl8).trans (same_new (o := .tup (ls ++ [.ref t0])) nt9))).pt.trans p10).sq (.inl (.inl upd_same))
end
end K05
set_option Elab.async false
set_option linter.all false
set_option maxRecDepth 100000
set_option maxHeartbeats 4000000
namespace PM
open PySem PySem.Spec PyProof.Rows L2 ZX ZR
theorem kd_kp {c : Addr} {H H' : Hp} {xs ys : List V} (h : H c = some (.lst xs)) (h' : H' c = some (.lst ys)) (k : Kp c H H') : Kd H H' := fun a o e => by
  by_cases ea : a = c
  · rw [ea, h] at e
    exact .inr ⟨xs, ys, (Option.some.inj e).symm, by rw [ea]; exact h'⟩
  · exact .inl (k _ _ ea e)
/-- going through some rows, from a place on -/
def walkL (f n : Nat) (ds : List Dt) (s : Except Nat Nat) : Except Nat Nat := ds.foldl (fun s x => exB (walkR f n x) s) s
theorem walkL_err {f n : Nat} (ds : List Dt) (p : Nat) : walkL f n ds (.error p) = .error p := fold_err (g := walkR f n) ds p
theorem walkL_cons {f n : Nat} {d : Dt} {ds : List Dt} {m : Nat} : walkL f n (d :: ds) (.ok m) = walkL f n ds (walkR f n d m) := rfl
theorem walkL_app {f n : Nat} {a b : List Dt} {s : Except Nat Nat} : walkL f n (a ++ b) s = walkL f n b (walkL f n a s) := List.foldl_append ..
end PM
namespace K05
open PySem PySem.Spec PyProof.Rows L2 ZX PM ZR
abbrev sLFirst : Stmt := top 52
def spLFirst (K : PySem.W.Frag) (C : Addr) (f : Nat) : Sp := fun vs H Q _ => ∃ (n : Nat) (v : V) (ds : List Dt) (c : Addr) (m : Nat), vs = [v, .int n, .ref c] ∧ 0 < f ∧ n + f = 5 ∧ Td K C H v (.tup ds) ∧ H c = some (.lst [.int m]) ∧
  ∀ H' (m' : Nat), Kp c H H' → H' c = some (.lst [.int m']) → (∀ q, walkL f n ds (.ok m) = .ok q → m' = q) → Q (resV (walkL f n ds (.ok m))) H'
section
variable {P : Program} {w : World} {K : PySem.W.Frag} {mg : Str → Option Value} {base : Heap} {C : Addr}
theorem scLFirst : FnScope ["_law_block_here", "_law_deep_here", "_law_count", "_law_row", "_law_here", "_law_inner", "_law_wrong_here"] ["_law_block_here", "_law_deep_here", "_law_count"] (defScope sLFirst) := ⟨rfl, rfl, rfl, by decide +kernel, rfl, by decide +kernel, by decide +kernel⟩
theorem ok_lfirst0 {f : Addr} {fd : FuncData} (k : Nat) : FnOk P w K mg base CX0 k f fd ["_law_block_here", "_law_deep_here", "_law_count"] (spLFirst K C 0) :=
  ⟨fun vs H Q E h => by
    obtain ⟨_, _, _, _, _, _, h, _⟩ := h
    exact absurd h (Nat.not_lt_zero _), fun A outer s H args us vs Q E hr e0 hb r h => by
    obtain ⟨_, _, _, _, _, _, h, _⟩ := h
    exact absurd h (Nat.not_lt_zero _)⟩
theorem ok_lfirst1 {j : Nat} {f : Addr} {fd : FuncData} (F : FnP K "_law_first_wrong" sLFirst f fd) (T : Bi mg) (C__law_is_row : Cal P w K mg base "_law_is_row" 2 ["_law_row", "_law_deep_here"] (spLRowD K C)) (C__law_first_wrong : Cal P w K mg base "_law_first_wrong" (j + 2) ["_law_block_here", "_law_deep_here", "_law_count"] (spLFirst K C j)) : FnOk P w K mg base CX0 (j + 3) f fd ["_law_block_here", "_law_deep_here", "_law_count"] (spLFirst K C (j + 1)) := by
  refine F.ok scLFirst (fun vs H Q E h => ?_) (fun cdv A outer s H vs Q E hr h => ?_)
  · obtain ⟨n, v, ds, c, m, rfl, _⟩ := h
    rfl
  · obtain ⟨n, v, ds, c, m, rfl, _, hnf, tv, hc, k⟩ := h
    have hr__law_is_row := hr.mono (show 2 ≤ j + 2 by omega)
    have hr__law_first_wrong := hr
    refine ⟨_, PSs.nox (pss_cons (ps_for PassesOwn.never rfl (pi_tup (pv 0)) (pg_name (i := 3) scLFirst.nd rfl (Or.inl rfl)) (pss_cons (ps_set (i := 4) scLFirst.nd rfl (Or.inl rfl) (pe_ix ix_list (pv 2) pe_int (fun _ _ => rfl)))
      (pss_cons (ps_asg (pe_op op_add (pv 4) pe_int) (pg_sub (pv 2) pe_int set_list))
      (pss_cons (ps_if (pt_not (pt_val (pcal C__law_is_row hr__law_is_row rfl (pa_cons (pv 3) (pa_cons (pv 1) pa_nil))))) (pss_one (ps_ret (pv 4))) pss_nil)
      (pss_one (ps_if (pt_cmpR op_in_seq (pe_ix ix_tup (pv 3) pe_int (fun _ _ => rfl)) (pe_tup (pa_cons pe_str (pa_cons pe_str pa_nil))) (by with_unfolding_all rfl)) (pss_one (ps_for PassesOwn.never rfl (pi_tup (pe_slice sl_tup (pv 3) (po_some pe_int) po_none)) (pg_name (i := 5) scLFirst.nd rfl (Or.inl rfl)) (pss_cons (ps_set (i := 6) scLFirst.nd rfl (Or.inl rfl) (pcal C__law_first_wrong hr__law_first_wrong rfl (pa_cons (pv 5) (pa_cons (pe_op op_add (pv 1) pe_int) (pa_cons (pv 2) pa_nil)))))
          (pss_one (ps_if (pt_cmpR op_notN (pv 6) pe_non (nomark _)) (pss_one (ps_ret (pv 6))) pss_nil))))) pss_nil))))))
    (pss_one (ps_ret pe_non))), ?_⟩
    obtain ⟨a, xs, rfl, hS, ht⟩ := Td.tupI tv
    have hln := ht.len
    refine ⟨_, rfl, a, rfl, ⟨_, hS⟩, ?_⟩
    refine for_tup (xs := xs) (fun i σ' H' => ∃ y3 y4 y5 y6, ∃ m1 : Nat, σ' = [some (.ref a), some (.int (n : Nat)), some (.ref c), y3, y4, y5, y6] ∧ Kp c H H' ∧ H' c = some (.lst [.int m1]) ∧ walkL (j + 1) n (ds.drop i) (.ok m1) = walkL (j + 1) n ds (.ok m))
      ⟨_, _, _, _, m, rfl, Kp.refl _ _, hc, rfl⟩ ?_ ?_ ?_
    · rintro i σ' H' _ ⟨_, _, _, _, m1, _, kp, hc1, _⟩
      exact (kd_kp hc hc1 kp).pt.sq hS
    · rintro i x σ' H' hx ⟨y3, y4, y5, y6, m1, rfl, kp, hc1, hW⟩
      have kd := kd_kp hc hc1 kp
      obtain ⟨d, hd, td⟩ := (ht.kd kd).get hx
      have hdr : ds.drop i = d :: ds.drop (i + 1) := by
        have hil := (List.getElem?_eq_some_iff.mp hd).1
        rw [List.drop_eq_getElem_cons hil, List.getElem?_eq_getElem hil] at *
        cases hd
        rfl
      rw [hdr, walkL_cons] at hW
      refine ⟨_, rfl, c, _, _, _, rfl, rfl, SqL.of hc1, rfl, ?_⟩
      refine ⟨_, rfl, _, _, rfl, rfl, _, rfl, c, _, _, 0, rfl, rfl, hc1, rfl, ?_⟩
      have kp2 : Kp c H (upd H' c (.lst [.int ((m1 + 1 : Nat) : Int)])) := kp.put
      have hc2 : (upd H' c (.lst [.int ((m1 + 1 : Nat) : Int)])) c = some (.lst [.int ((m1 + 1 : Nat) : Int)]) := upd_same
      have td2 := td.kd (Kd.put (ys := [.int ((m1 + 1 : Nat) : Int)]) hc1)
      refine ⟨_, rfl, _, rfl, n, x, d, rfl, by omega, td2, fun H3 s3 => ⟨_, rfl, ?_⟩⟩
      have hc3 : H3 c = some (.lst [.int ((m1 + 1 : Nat) : Int)]) := s3 _ _ hc2
      have kp3 : Kp c H H3 := kp2.same s3
      have td3 := td2.kd s3.kd
      clear hc2 kp2 td2
      cases hrd : rowD n d with
      | false =>
        rw [walkR_no hrd, walkL_err] at hW
        have := k H3 (m1 + 1) kp3 hc3 (fun q e => by rw [← hW] at e; cases e)
        rw [← hW] at this
        exact ⟨_, rfl, this⟩
      | true =>
      rw [show walkR (j + 1) n d m1 = walkL j (n + 1) (innD d).flatten (.ok (m1 + 1)) from if_pos hrd] at hW
      obtain ⟨wd, r, rfl, _, hcase⟩ := rowD_or hrd
      obtain ⟨b, ys, rfl, hyS, hyt⟩ := Td.tupI td3
      obtain ⟨v0, us, rfl, t0, hu⟩ := Tds.consI hyt
      cases t0 with
      | str _ hwl =>
      refine ⟨_, rfl, _, _, _, _, rfl, rfl, hyS, at0, by decide, fun t nt => ?_⟩
      have s4 := same_new (o := .tup [V.str "either", V.str "again"]) nt
      have ei : inV (V.str wd) [V.str "either", V.str "again"] = (decide (wd = "either") || decide (wd = "again")) := by
        show (Str.ofString "either" == wd || (Str.ofString "again" == wd || false)) = _
        rw [Bool.or_false, BEq.comm, BEq.comm (a := Str.ofString "again")]
        rfl
      refine ⟨_, _, rfl, .inr (.inl (.inl upd_same)), rfl, rfl, _, rfl, ?_⟩
      show if inV (V.str wd) [V.str "either", V.str "again"] = true then _ else _
      generalize upd H3 t (.tup [V.str "either", V.str "again"]) = H4 at s4
      have hc4 := s4 _ _ hc3
      have kp4 : Kp c H H4 := kp3.same s4
      rcases hcase with ⟨hw, L, rfl, hL, h5, _⟩ | ⟨h1, h2, hL⟩
      rotate_left
      · refine ifBF (by rw [ei, decide_eq_false h1, decide_eq_false h2]; rfl) ?_
        rw [hL] at hW
        exact ⟨_, _, _, _, m1 + 1, rfl, kp4, hc4, hW⟩
      refine ifB (by rw [ei]; rcases hw with e | e <;> simp [e]) ?_
      rw [hL] at hW
      refine ⟨_, rfl, 1, rfl, b, _, rfl, s4.pt.sq hyS, cut1_ne, fun q nq => ⟨q, rfl, ⟨_, .inl (.inl upd_same)⟩, ?_⟩⟩
      rw [cut1]
      have s5 := s4.trans (same_new (o := .tup us) nq)
      have hu5 := hu.kd s5.kd
      have hq5 : SqT K (upd H4 q (.tup us)) q us := .inl (.inl upd_same)
      have kp5 : Kp c H (upd H4 q (.tup us)) := kp3.same s5
      have hc5 := s5 _ _ hc3
      generalize upd H4 q (.tup us) = H5 at s5 hu5 hq5 kp5 hc5
      have hul := hu5.len
      rw [List.length_map] at hul
      refine for_tup (xs := us) (fun i' σ' H' => ∃ y5 y6, ∃ m2 : Nat, σ' = [some (.ref a), some (.int (n : Nat)), some (.ref c), some (.ref b), some (.int (m1 : Nat)), y5, y6] ∧ Kp c H5 H' ∧ H' c = some (.lst [.int m2]) ∧ walkL (j + 1) n (ds.drop (i + 1)) (walkL j (n + 1) (L.drop i').flatten (.ok m2)) = walkL (j + 1) n ds (.ok m))
        ⟨_, _, m1 + 1, rfl, Kp.refl _ _, hc5, hW⟩ ?_ ?_ ?_
      · rintro i' σ' H' _ ⟨_, _, m2, _, kp6, hc6, _⟩
        exact (kd_kp hc5 hc6 kp6).pt.sq hq5
      · rintro i' z σ' H' hz ⟨y5, y6, m2, rfl, kp6, hc6, hW6⟩
        have kd6 := kd_kp hc5 hc6 kp6
        obtain ⟨e0, he0, tz⟩ := (hu5.kd kd6).get hz
        obtain ⟨cb, hcb, rfl⟩ : ∃ c, L[i']? = some c ∧ Dt.tup c = e0 := by
          rw [List.getElem?_map] at he0
          cases h : L[i']? with
          | none => rw [h] at he0; cases he0
          | some c => rw [h] at he0; exact ⟨c, rfl, Option.some.inj he0⟩
        have hdl : L.drop i' = cb :: L.drop (i' + 1) := by
          have hil := (List.getElem?_eq_some_iff.mp hcb).1
          rw [List.drop_eq_getElem_cons hil]
          rw [List.getElem?_eq_getElem hil] at hcb
          cases hcb
          rfl
        rw [hdl, List.flatten_cons, walkL_app] at hW6
        refine ⟨_, rfl, _, rfl, _, _, rfl, rfl, _, rfl, n + 1, z, cb, c, m2, rfl, by omega, by omega, tz, hc6, fun H7 m3 kp7 hc7 hq => ?_⟩
        cases hr7 : walkL j (n + 1) cb (.ok m2) with
        | error p =>
          rw [hr7, walkL_err, walkL_err] at hW6
          have := k H7 m3 ((kp5.trans kp6).trans kp7) hc7 (fun q e => by rw [← hW6] at e; cases e)
          rw [← hW6] at this
          exact ⟨_, rfl, rfl, true, rfl, _, rfl, this⟩
        | ok q =>
          have := hq q hr7
          subst this
          rw [hr7] at hW6
          exact ⟨_, rfl, rfl, false, rfl, _, _, m3, rfl, kp6.trans kp7, hc7, hW6⟩
      · rintro σ' H' ⟨y5, y6, m2, rfl, kp6, hc6, hW6⟩
        rw [show us.length = L.length from hul, List.drop_length] at hW6
        exact ⟨_, _, _, _, m2, rfl, kp5.trans kp6, hc6, hW6⟩
    · rintro σ' H' ⟨y3, y4, y5, y6, m1, rfl, kp, hc1, hW⟩
      rw [hln, List.drop_length] at hW
      have hW : (.ok m1 : Except Nat Nat) = walkL (j + 1) n ds (.ok m) := hW
      have := k H' m1 kp hc1 (fun q e => by rw [← hW] at e; cases e; rfl)
      rw [← hW] at this
      exact this
end
end K05
set_option Elab.async false
set_option linter.all false
set_option maxRecDepth 100000
set_option maxHeartbeats 4000000
namespace K05
open PySem PySem.Spec PyProof.Rows L2 ZX PM ZR
abbrev sHand : Stmt := top 40
abbrev sDraw : Stmt := top 41
abbrev sAny : Stmt := top 42
abbrev sDeep : Stmt := top 54
/-- the hand of draws at p -/
structure HandIs (H : Hp) (p c : Addr) (cs : List Int) (i g k d : Int) : Prop where
  hp : H p = some (.lst [.ref c, .int i, .int g, .int k, .int d])
  hc : H c = some (.lst (cs.map V.int))
  ne : c ≠ p
  nn : ∀ x ∈ cs, 0 ≤ x
  i0 : 0 ≤ i
  g0 : 0 ≤ g
  k0 : 0 ≤ k
  d0 : 0 ≤ d
def HandAt (H : Hp) (p c : Addr) : Prop := ∃ cs i g k d, HandIs H p c cs i g k d
theorem HandIs.put {H : Hp} {p c : Addr} {cs : List Int} {i g k d i' g' k' d' : Int} (h : HandIs H p c cs i g k d) (hi : 0 ≤ i') (hg : 0 ≤ g') (hk : 0 ≤ k') (hd : 0 ≤ d') :
    HandIs (upd H p (.lst [.ref c, .int i', .int g', .int k', .int d'])) p c cs i' g' k' d' :=
  ⟨upd_same, by rw [upd_ne h.ne]; exact h.hc, h.ne, h.nn, hi, hg, hk, hd⟩
theorem HandAt.kp {H H' : Hp} {p c : Addr} (h : HandAt H p c) (k : ∀ b o, H b = some o → H' b = some o) : HandAt H' p c := by
  obtain ⟨cs, i, g, kk, d, h⟩ := h
  exact ⟨cs, i, g, kk, d, k _ _ h.hp, k _ _ h.hc, h.ne, h.nn, h.i0, h.g0, h.k0, h.d0⟩
theorem HandAt.new {H : Hp} {p c a : Addr} {o : HO} (h : HandAt H p c) (n : H a = none) : HandAt (upd H a o) p c := h.kp fun b u e => by
  rw [upd_ne (ne_of_none e n)]
  exact e
theorem HandAt.some {H : Hp} {p c : Addr} (h : HandAt H p c) : ∃ o, H p = some o := by
  obtain ⟨cs, i, g, kk, d, h⟩ := h
  exact ⟨_, h.hp⟩
/-! ### promises -/
def spHand (K : PySem.W.Frag) : Sp := fun vs H Q _ => ∃ (a : Addr) (ns : List Int), vs = [.ref a] ∧ SqL K H a (ns.map V.int) ∧ ns.length ≤ 63 ∧ ∀ (p c : Addr) (H' : Hp), HandAt H' p c → Same H H' → H p = none → Q (.ref p) H'
def spDraw : Sp := fun vs H Q _ => ∃ (p c : Addr) (m : Int), vs = [.ref p, .int m] ∧ HandAt H p c ∧ 0 < m ∧ m < 1073741824 ∧ ∀ (d : Int) (H' : Hp), 0 ≤ d → d < m → HandAt H' p c → Ch p H H' → Q (.int d) H'
section
variable {P : Program} {w : World} {K : PySem.W.Frag} {mg : Str → Option Value} {base : Heap}
theorem scHand : FnScope ["_law_script", "_law_cells", "_law_cell"] ["_law_script"] (defScope sHand) := ⟨rfl, rfl, rfl, by decide +kernel, rfl, by decide +kernel, by decide +kernel⟩
theorem ok_hand {f : Addr} {fd : FuncData} (F : FnP K "_law_hand" sHand f fd) (T : Bi mg) : FnOk P w K mg base CX0 1 f fd ["_law_script"] (spHand K) := by
  refine F.ok scHand (fun vs H Q E h => ?_) (fun cdv A outer s H vs Q E hr h => ?_)
  · obtain ⟨a, ns, rfl, _⟩ := h
    rfl
  · obtain ⟨a, ns, rfl, hS, hl, k⟩ := h
    refine ⟨_, PSs.nox (pss_cut (ps_setLc (i := 1) (own := [("_law_cell", 2)]) (g := gName 2) (tt := tYes) rfl scHand.nd rfl rfl (sw_true rfl rfl rfl (by decide +kernel)) (pi_list (pe_slice sl_list (pv 0) po_none (po_some pe_int))) (blkOk_by (N := ["_law_script", "_law_cells", "_law_cell"]) (sc := defScope sHand) (by decide +kernel)) (fun _ _ _ _ _ => (pg_name (i := 2) scHand.nd rfl (Or.inl rfl))) (fun _ _ _ _ _ => pts_nil) (fun _ _ _ _ _ => (pe_callB call_abs (by rfl) T.b_abs (by decide +kernel) (pa_cons (pe_callTy call_int1 (by rfl) T.b_int (by decide +kernel) (pa_cons (pv 2) pa_nil)) pa_nil))))
    (pss_one (ps_ret (pe_lst (pa_cons (pv 1) (pa_cons pe_int (pa_cons pe_int (pa_cons (pe_op op_add pe_int (pe_callB call_len_seq (by rfl) T.b_len (by decide +kernel) (pa_cons (pv 1) pa_nil))) (pa_cons pe_int pa_nil))))))))), ?_⟩
    refine ⟨fun σ' H' => ∃ (c : Addr) (cs : List Int), σ' = [some (.ref a), some (.ref c), none] ∧ Same H H' ∧ H c = none ∧ H' c = some (.lst (cs.map V.int)) ∧ ∀ x ∈ cs, 0 ≤ x, ?_, ?_⟩
    · -- the comprehension
      refine ⟨_, rfl, _, rfl, a, _, rfl, hS, fun p np => ?_⟩
      have hlen : (cutV (ns.map V.int) none (some 63)) = ns.map V.int := by
        unfold cutV
        rw [List.length_map]
        have h1 : HT.sIx ns.length 0 none = 0 := rfl
        have h2 : HT.sIx ns.length ns.length (some 63) = min 63 ns.length := HT.sIx_nat _ _ 63
        rw [h1, h2, List.drop_zero, Nat.sub_zero, Nat.min_eq_right hl]
        exact List.take_of_length_le (by rw [List.length_map]; exact Nat.le_refl _)
      rw [hlen]
      refine ⟨p, rfl, ⟨_, SqL.of upd_same⟩, fun D hD => ?_⟩
      have npD : p ≠ D := ne_of_none (upd_same (H := H) (a := p)) hD
      have nH : H D = none := by
        rw [upd_ne npD.symm] at hD
        exact hD
      refine lc_list (K := K) (xs := ns.map V.int) (fun i H' => ∃ cs : List Int, H' = upd (upd H p (.lst (ns.map V.int))) D (.lst (cs.map V.int)) ∧ cs.length = i ∧ ∀ x ∈ cs, 0 ≤ x) ⟨[], rfl, rfl, fun x hx => nomatch hx⟩ ?_ ?_ ?_
      · rintro i H' _ ⟨cs, rfl, _⟩
        exact SqL.of (by rw [upd_ne npD, upd_same])
      · rintro i x H' hx ⟨cs, rfl, hi, hc⟩
        obtain ⟨z, rfl⟩ : ∃ z, x = V.int z := by
          rw [List.getElem?_map] at hx
          cases e : ns[i]? with
          | none => rw [e] at hx; cases hx
          | some z => rw [e] at hx; exact ⟨z, (Option.some.inj hx).symm⟩
        have hil : i < (ns.map V.int).length := (List.getElem?_eq_some_iff.mp hx).1
        rw [List.length_map] at hil
        refine ⟨rfl, _, rfl, .inl ⟨_, rfl, _, rfl, cs.map V.int, upd_same, Nat.lt_of_le_of_lt (by rw [List.length_map, hi]; omega) (show 63 < sizeLine by decide), cs ++ [if z < 0 then -z else z], ?_, by rw [List.length_append, hi]; rfl, fun x hx => ?_⟩⟩
        · rw [upd_upd, List.map_append]
          rfl
        · rcases List.mem_append.mp hx with h | h
          · exact hc x h
          · rw [List.mem_singleton.mp h]
            split <;> omega
      · rintro H' ⟨cs, rfl, _, hc⟩
        refine ⟨D, cs, rfl, fun b o e => ?_, nH, upd_same, hc⟩
        rw [upd_ne (ne_of_none e nH), upd_ne (ne_of_none e np)]
        exact e
    · rintro σ' H' ⟨c, cs, rfl, s1, n1, hc, hcn⟩
      refine ⟨_, rfl, _, rfl, c, _, rfl, .inl (SqL.of hc), _, _, rfl, rfl, (by show 5 ≤ sizeLine; decide), fun p np => ?_⟩
      have ncp : c ≠ p := ne_of_none hc np
      refine k p c _ ⟨cs, 0, 0, _, 0, upd_same, by rw [upd_ne ncp]; exact hc, ncp, hcn, by omega, by omega, by omega, by omega⟩ (fun b o e => ?_) (s1.free np)
      rw [upd_ne (ne_of_none (s1 b o e) np)]
      exact s1 b o e
end

section
variable {P : Program} {w : World} {K : PySem.W.Frag} {mg : Str → Option Value} {base : Heap}
theorem scDraw : FnScope ["_law_hand_here", "_law_many", "_law_cell", "_law_digit", "_law_number_here"] ["_law_hand_here", "_law_many"] (defScope sDraw) := ⟨rfl, rfl, rfl, by decide +kernel, rfl, by decide +kernel, by decide +kernel⟩
/-- what holds in draw between its statements -/
def DrawMid (p c : Addr) (m : Int) (H0 : Hp) (σ : L2.St) (H : Hp) : Prop := ∃ (cs : List Int) (i g k d : Int) (x y z : Option V), σ = [some (.ref p), some (.int m), x, y, z] ∧ HandIs H p c cs i g k d ∧ Ch p H0 H
/-- .. behind its last numbers -/
def DrawNum (p c : Addr) (m : Int) (H0 : Hp) (σ : L2.St) (H : Hp) : Prop := ∃ (x y : Option V) (n : Int), σ = [some (.ref p), some (.int m), x, y, some (.int n)] ∧ HandAt H p c ∧ Ch p H0 H ∧ 0 ≤ n ∧ n < 4294967296
theorem ok_draw {f : Addr} {fd : FuncData} (F : FnP K "_law_draw" sDraw f fd) (T : Bi mg) : FnOk P w K mg base CX0 1 f fd ["_law_hand_here", "_law_many"] spDraw := by
  refine F.ok scDraw (fun vs H Q E h => ?_) (fun cdv A outer s H vs Q E hr h => ?_)
  · obtain ⟨p, c, m, rfl, _⟩ := h
    rfl
  · obtain ⟨p, c, m, rfl, ⟨cs, i, g, kk, d, hh⟩, m0, m1, k⟩ := h
    refine ⟨_, PSs.nox (pss_cut (ps_if (PW.pt (pw_and (pt_cmpR op_eq (pe_ix ix_list (pv 0) pe_int (fun _ _ => rfl)) pe_int (nomark _)) (pw_and1 (pt_cmpR op_lt (pe_ix ix_list (pv 0) pe_int (fun _ _ => rfl)) (pe_callB call_len_seq (by rfl) T.b_len (by decide +kernel) (pa_cons (pe_ix ix_list (pv 0) pe_int (fun _ _ => rfl)) pa_nil)) (nomark _))))) (pss_cons (ps_set (i := 2) scDraw.nd rfl (Or.inl rfl) (pe_ix ix_list (pe_ix ix_list (pv 0) pe_int (fun _ _ => rfl)) (pe_ix ix_list (pv 0) pe_int (fun _ _ => rfl)) (fun _ _ => rfl)))
      (pss_cons (ps_asg (pe_op op_add (pe_ix ix_list (pv 0) pe_int (fun _ _ => rfl)) pe_int) (pg_sub (pv 0) pe_int set_list))
      (pss_cons (ps_asg (pe_op op_mod (pe_callTy call_int1 (by rfl) T.b_int (by decide +kernel) (pa_cons (pe_op op_add (pe_op op_add (pe_op op_mul (pe_ix ix_list (pv 0) pe_int (fun _ _ => rfl)) pe_int) (pv 2)) pe_int) pa_nil)) pe_int) (pg_sub (pv 0) pe_int set_list))
      (pss_one (ps_if (pt_cmpR op_ge (pv 2) (pe_op op_pow pe_int pe_int) (nomark _)) (pss_one (ps_asg (pv 2) (pg_sub (pv 0) pe_int set_list))) pss_nil))))) pss_nil)
    (pss_cut (ps_if (pt_cmpR op_gt (pe_ix ix_list (pv 0) pe_int (fun _ _ => rfl)) pe_int (nomark _)) (pss_cons (ps_set (i := 3) scDraw.nd rfl (Or.inl rfl) (pe_op op_modP (pe_callTy call_int1 (by rfl) T.b_int (by decide +kernel) (pa_cons (pe_ix ix_list (pv 0) pe_int (fun _ _ => rfl)) pa_nil)) (pv 1)))
      (pss_cons (ps_asg (pe_op op_fdivP (pe_ix ix_list (pv 0) pe_int (fun _ _ => rfl)) (pv 1)) (pg_sub (pv 0) pe_int set_list))
      (pss_one (ps_ret (pv 3))))) pss_nil)
    (pss_cons (ps_asg (pe_op op_add (pe_ix ix_list (pv 0) pe_int (fun _ _ => rfl)) pe_int) (pg_sub (pv 0) pe_int set_list))
    (pss_cut (ps_set (i := 4) scDraw.nd rfl (Or.inl rfl) (pe_op op_mod (pe_callTy call_int1 (by rfl) T.b_int (by decide +kernel) (pa_cons (pe_op op_mul (pe_callTy call_int1 (by rfl) T.b_int (by decide +kernel) (pa_cons (pe_op op_add (pe_ix ix_list (pv 0) pe_int (fun _ _ => rfl)) (pe_op op_mul pe_int (pe_ix ix_list (pv 0) pe_int (fun _ _ => rfl)))) pa_nil)) pe_int) pa_nil)) pe_int))
    (pss_cut (ps_set (i := 4) scDraw.nd rfl (Or.inl rfl) (pe_op op_mod (pe_callTy call_int1 (by rfl) T.b_int (by decide +kernel) (pa_cons (pe_op op_mul (pv 4) (pe_op op_add (pe_op op_fdiv (pv 4) pe_int) pe_int)) pa_nil)) pe_int))
    (pss_cut (ps_set (i := 4) scDraw.nd rfl (Or.inl rfl) (pe_op op_mod (pe_callTy call_int1 (by rfl) T.b_int (by decide +kernel) (pa_cons (pe_op op_mul (pv 4) (pe_op op_add (pe_op op_fdiv (pv 4) pe_int) pe_int)) pa_nil)) pe_int))
    (pss_one (ps_ret (pe_op op_modP (pe_callTy call_int1 (by rfl) T.b_int (by decide +kernel) (pa_cons (pe_op op_fdiv (pv 4) pe_int) pa_nil)) (pv 1)))))))))), ?_⟩
    refine ⟨DrawMid p c m H, ?_, ?_⟩
    · refine ⟨_, rfl, p, _, _, _, rfl, rfl, SqL.of hh.hp, rfl, rfl, _, rfl, ?_⟩
      refine ite2 (fun e => ?_) (fun _ => ?_)
      · refine ⟨_, rfl, p, _, _, _, rfl, rfl, SqL.of hh.hp, rfl, _, rfl, p, _, _, _, rfl, rfl, SqL.of hh.hp, rfl, c, _, rfl, .inl (SqL.of hh.hc), _, _, rfl, rfl, _, rfl, ?_⟩
        refine ite2 (fun e => ?_) (fun _ => ?_)
        · have hi : i < ((cs.map V.int).length : Int) := of_decide_eq_true e
          obtain ⟨x, hx, hx0⟩ : ∃ x, cs[i.toNat]? = some x ∧ 0 ≤ x := by
            have hl : i.toNat < cs.length := by
              rw [List.length_map] at hi
              have := hh.i0
              omega
            exact ⟨_, List.getElem?_eq_getElem hl, hh.nn _ (List.getElem_mem hl)⟩
          have hat : atI (cs.map V.int) i = some (V.int x) := at_of (j := i.toNat) (by have := hh.i0; omega) (by rw [List.getElem?_map, hx]; rfl)
          refine ⟨_, rfl, p, _, _, _, rfl, rfl, SqL.of hh.hp, rfl, _, rfl, p, _, _, _, rfl, rfl, SqL.of hh.hp, rfl, c, _, _, _, rfl, rfl, SqL.of hh.hc, hat, ?_⟩
          -- hand[1] = hand[1] + 1
          have h2 := hh.put (i' := i + 1) (g' := g) (k' := kk) (d' := d) (by have := hh.i0; omega) hh.g0 hh.k0 hh.d0
          refine ⟨_, rfl, p, _, _, _, rfl, rfl, SqL.of hh.hp, rfl, _, _, rfl, rfl, _, rfl, p, _, _, 1, rfl, rfl, hh.hp, rfl, ?_⟩
          -- hand[3] = ..
          have h3 := h2.put (i' := i + 1) (g' := g) (k' := (kk * 69621 + x + 11) % 2147483629) (d' := d) (by have := hh.i0; omega) hh.g0 (Int.emod_nonneg _ (by decide)) hh.d0
          refine ⟨_, rfl, p, _, _, _, rfl, rfl, SqL.of h2.hp, rfl, _, _, rfl, rfl, .inr ⟨by decide, by decide⟩, _, rfl, _, _, rfl, rfl, _, _, rfl, rfl, .inl ⟨_, rfl, _, _, rfl, rfl, (by show (0 : Int) < 2147483629; decide), _, rfl, p, _, _, 3, rfl, rfl, h2.hp, rfl, ?_⟩⟩
          -- if cell >= 10 ** 18
          refine ⟨_, rfl, _, _, rfl, rfl, ⟨by decide, by decide, by decide⟩, _, _, rfl, rfl, _, rfl, ?_⟩
          refine ite2 (fun _ => ?_) (fun _ => ?_)
          · have h4 := h3.put (i' := i + 1) (g' := x) (k' := (kk * 69621 + x + 11) % 2147483629) (d' := d) (by have := hh.i0; omega) hx0 (Int.emod_nonneg _ (by decide)) hh.d0
            refine ⟨_, rfl, _, rfl, p, _, _, 2, rfl, rfl, h3.hp, rfl, ?_⟩
            exact ⟨cs, _, _, _, _, _, _, _, rfl, h4, ((Ch.refl _ _).upd _).upd _ |>.upd _⟩
          · exact ⟨cs, _, _, _, _, _, _, _, rfl, h3, ((Ch.refl _ _).upd _).upd _⟩
        · exact ⟨cs, i, g, kk, d, _, _, _, rfl, hh, Ch.refl _ _⟩
      · exact ⟨cs, i, g, kk, d, _, _, _, rfl, hh, Ch.refl _ _⟩
    · rintro σ' H' ⟨cs, i, g, kk, d, x, y, z, rfl, hh, ch⟩
      refine ⟨DrawMid p c m H, ?_, ?_⟩
      · -- if hand[2] > 0
        refine ⟨_, rfl, p, _, _, _, rfl, rfl, SqL.of hh.hp, rfl, _, _, rfl, rfl, _, rfl, ?_⟩
        refine ite2 (fun _ => ?_) (fun _ => ?_)
        · refine ⟨_, rfl, p, _, _, _, rfl, rfl, SqL.of hh.hp, rfl, .inl ⟨_, rfl, _, rfl, _, _, rfl, rfl, m0, ?_⟩⟩
          have h2 := hh.put (i' := i) (g' := g / m) (k' := kk) (d' := d) hh.i0 (Int.ediv_nonneg hh.g0 (by omega)) hh.k0 hh.d0
          refine ⟨_, rfl, p, _, _, _, rfl, rfl, SqL.of hh.hp, rfl, _, rfl, _, _, rfl, rfl, ⟨m0, m1⟩, _, rfl, p, _, _, 2, rfl, rfl, hh.hp, rfl, ?_⟩
          exact ⟨_, rfl, k _ _ (Int.emod_nonneg _ (by omega)) (Int.emod_lt_of_pos _ m0) ⟨cs, _, _, _, _, h2⟩ (ch.upd _)⟩
        · exact ⟨cs, i, g, kk, d, _, _, _, rfl, hh, ch⟩
      · rintro σ' H' ⟨cs, i, g, kk, d, x, y, z, rfl, hh, ch⟩
        have h2 := hh.put (i' := i) (g' := g) (k' := kk) (d' := d + 1) hh.i0 hh.g0 hh.k0 (by have := hh.d0; omega)
        refine ⟨_, rfl, p, _, _, _, rfl, rfl, SqL.of hh.hp, rfl, _, _, rfl, rfl, _, rfl, p, _, _, 4, rfl, rfl, hh.hp, rfl, ?_⟩
        refine ⟨DrawNum p c m H, ?_, ?_⟩
        · refine ⟨_, rfl, p, _, _, _, rfl, rfl, SqL.of h2.hp, rfl, _, rfl, p, _, _, _, rfl, rfl, SqL.of h2.hp, rfl, _, _, rfl, rfl, .inl ⟨by decide, by decide⟩, _, _, rfl, rfl, .inl ⟨_, rfl, _, _, rfl, rfl, .inr ⟨by decide, by decide⟩, .inl ⟨_, rfl, _, _, rfl, rfl, (by show (0 : Int) < 2147483647; decide), ?_⟩⟩⟩
          exact ⟨_, _, _, rfl, ⟨cs, _, _, _, _, h2⟩, ch.upd _, Int.emod_nonneg _ (by decide), Int.lt_trans (Int.emod_lt_of_pos _ (by decide)) (by decide)⟩
        · rintro σ' H' ⟨x, y, n, rfl, hh, ch, n0, n1⟩
          refine ⟨DrawNum p c m H, ?_, ?_⟩
          · refine ⟨_, rfl, _, rfl, _, _, rfl, rfl, ⟨by decide, by decide⟩, _, _, rfl, rfl, _, _, rfl, rfl, .inl ⟨by omega, by omega⟩, .inl ⟨_, rfl, _, _, rfl, rfl, (by show (0 : Int) < 2147483647; decide), ?_⟩⟩
            exact ⟨_, _, _, rfl, hh, ch, Int.emod_nonneg _ (by decide), Int.lt_trans (Int.emod_lt_of_pos _ (by decide)) (by decide)⟩
          · rintro σ' H' ⟨x, y, n, rfl, hh, ch, n0, n1⟩
            refine ⟨DrawNum p c m H, ?_, ?_⟩
            · refine ⟨_, rfl, _, rfl, _, _, rfl, rfl, ⟨by decide, by decide⟩, _, _, rfl, rfl, _, _, rfl, rfl, .inl ⟨by omega, by omega⟩, .inl ⟨_, rfl, _, _, rfl, rfl, (by show (0 : Int) < 2147483399; decide), ?_⟩⟩
              exact ⟨_, _, _, rfl, hh, ch, Int.emod_nonneg _ (by decide), Int.lt_trans (Int.emod_lt_of_pos _ (by decide)) (by decide)⟩
            · rintro σ' H' ⟨x, y, n, rfl, hh, ch, n0, n1⟩
              refine ⟨_, rfl, _, _, rfl, rfl, ⟨by decide, by decide⟩, .inl ⟨_, rfl, _, rfl, _, _, rfl, rfl, m0, ?_⟩⟩
              exact k _ _ (Int.emod_nonneg _ (by omega)) (Int.emod_lt_of_pos _ m0) hh ch
end

/-- a thing nested in lists, tuples, dicts -/
inductive Deep (H : Hp) : V → Prop where
  | non : Deep H .non
  | str : Deep H (.str "x")
  | nil {a : Addr} (h : H a = some (.tup [])) : Deep H (.ref a)
  | lst {a : Addr} {v : V} (h : H a = some (.lst [v])) (d : Deep H v) : Deep H (.ref a)
  | tup {a : Addr} {v : V} (h : H a = some (.tup [v])) (d : Deep H v) : Deep H (.ref a)
  | dic {a : Addr} {v : V} (h : H a = some (.dK [(.inl 0, v)])) (d : Deep H v) : Deep H (.ref a)
theorem Deep.kp {H H' : Hp} {p c : Addr} {v : V} (hh : HandAt H p c) (k : Kp p H H') (d : Deep H v) : Deep H' v := by
  obtain ⟨cs, i, g, kk, dd, hh⟩ := hh
  induction d with
  | non => exact .non
  | str => exact .str
  | nil h => exact .nil (k _ _ (ne_of h hh.hp (by intro z; cases z)) h)
  | lst h _ ih => exact .lst (k _ _ (ne_of h hh.hp (by intro z; cases z)) h) ih
  | tup h _ ih => exact .tup (k _ _ (ne_of h hh.hp (by intro z; cases z)) h) ih
  | dic h _ ih => exact .dic (k _ _ (ne_of h hh.hp (by intro z; cases z)) h) ih
theorem Deep.same {H H' : Hp} {v : V} (k : Same H H') (d : Deep H v) : Deep H' v := by
  induction d with
  | non => exact .non
  | str => exact .str
  | nil h => exact .nil (k _ _ h)
  | lst h _ ih => exact .lst (k _ _ h) ih
  | tup h _ ih => exact .tup (k _ _ h) ih
  | dic h _ ih => exact .dic (k _ _ h) ih
def SqA (K : PySem.W.Frag) (H : Hp) (t : Addr) (xs : List V) : Prop := SqL K H t xs ∨ SqT K H t xs
theorem SqA.ch {K : PySem.W.Frag} {p : Addr} {H H' : Hp} {t : Addr} {xs : List V} (c : Ch p H H') (ne : t ≠ p) (h : SqA K H t xs) : SqA K H' t xs := by
  rcases h with ((h | ⟨o, h⟩) | h) | ((h | ⟨o, h⟩) | h)
  · exact .inl (.inl (.inl (by rw [c t ne]; exact h)))
  · exact .inl (.inl (.inr ⟨o, by rw [c t ne]; exact h⟩))
  · exact .inl (.inr h)
  · exact .inr (.inl (.inl (by rw [c t ne]; exact h)))
  · exact .inr (.inl (.inr ⟨o, by rw [c t ne]; exact h⟩))
  · exact .inr (.inr h)
def spAny (K : PySem.W.Frag) : Sp := fun vs H Q _ => ∃ (p c t : Addr) (xs : List V), vs = [.ref p, .ref t] ∧ HandAt H p c ∧ t ≠ p ∧ SqA K H t xs ∧ xs ≠ [] ∧ xs.length < 1073741824 ∧ ∀ (x : V) (H' : Hp), x ∈ xs → HandAt H' p c → Ch p H H' → Q x H'
def spDeep : Sp := fun vs H Q _ => ∃ p c : Addr, vs = [.ref p] ∧ HandAt H p c ∧ ∀ (v : V) (H' : Hp), HandAt H' p c → Kp p H H' → Deep H' v → Q v H'
section
variable {P : Program} {w : World} {K : PySem.W.Frag} {mg : Str → Option Value} {base : Heap}
theorem scAny : FnScope ["_law_hand_here", "_law_things"] ["_law_hand_here", "_law_things"] (defScope sAny) := ⟨rfl, rfl, rfl, by decide +kernel, rfl, by decide +kernel, by decide +kernel⟩
theorem ok_any {f : Addr} {fd : FuncData} (F : FnP K "_law_any" sAny f fd) (T : Bi mg) (C_draw : Cal P w K mg base "_law_draw" 1 ["_law_hand_here", "_law_many"] spDraw) : FnOk P w K mg base CX0 2 f fd ["_law_hand_here", "_law_things"] (spAny K) := by
  refine F.ok scAny (fun vs H Q E h => ?_) (fun cdv A outer s H vs Q E hr h => ?_)
  · obtain ⟨p, c, t, xs, rfl, _⟩ := h
    rfl
  · obtain ⟨p, c, t, xs, rfl, hh, ne, hS, hx, hl, k⟩ := h
    refine ⟨_, PSs.nox (pss_one (ps_ret (pe_ix ix_seq (pv 1) (pcal C_draw hr rfl (pa_cons (pv 0) (pa_cons (pe_callB call_len_seq (by rfl) T.b_len (by decide +kernel) (pa_cons (pv 1) pa_nil)) pa_nil))) (fun _ _ => rfl)))), ?_⟩
    have hpos : 0 < xs.length := List.length_pos_iff.mpr hx
    refine ⟨_, rfl, _, rfl, _, rfl, t, xs, rfl, hS, p, c, _, rfl, hh, by omega, by omega, fun d H' d0 d1 hh' ch => ?_⟩
    have hd : d.toNat < xs.length := by omega
    have hat : atI xs d = some xs[d.toNat] := at_of (j := d.toNat) (by omega) (List.getElem?_eq_getElem hd)
    have hQ := k xs[d.toNat] H' (List.getElem_mem hd) hh' ch
    rcases hS.ch ch ne with h | h
    · exact .inl ⟨t, xs, d, _, rfl, rfl, h, hat, hQ⟩
    · exact .inr (.inl ⟨t, xs, d, _, rfl, rfl, h, hat, hQ⟩)
theorem scDeep : FnScope ["_law_hand_here", "_law_found", "_law_turn"] ["_law_hand_here"] (defScope sDeep) := ⟨rfl, rfl, rfl, by decide +kernel, rfl, by decide +kernel, by decide +kernel⟩
def DeepMid (p c : Addr) (H0 : Hp) (σ : L2.St) (H : Hp) : Prop := ∃ (v : V) (t : Option V), σ = [some (.ref p), some v, t] ∧ HandAt H p c ∧ Kp p H0 H ∧ Deep H v
theorem three {a b c : V} {d : Int} (h0 : 0 ≤ d) (h3 : d < 3) (Q : V → Prop) (ha : Q a) (hb : Q b) (hc : Q c) : ∃ x, atI [a, b, c] d = some x ∧ Q x := by
  have e : d = 0 ∨ d = 1 ∨ d = 2 := by omega
  rcases e with rfl | rfl | rfl
  · exact ⟨a, rfl, ha⟩
  · exact ⟨b, rfl, hb⟩
  · exact ⟨c, rfl, hc⟩
theorem ok_deep {f : Addr} {fd : FuncData} (F : FnP K "_law_deep" sDeep f fd) (T : Bi mg) (C_draw : Cal P w K mg base "_law_draw" 1 ["_law_hand_here", "_law_many"] spDraw) : FnOk P w K mg base CX0 2 f fd ["_law_hand_here"] spDeep := by
  refine F.ok scDeep (fun vs H Q E h => ?_) (fun cdv A outer s H vs Q E hr h => ?_)
  · obtain ⟨p, c, rfl, _⟩ := h
    rfl
  · obtain ⟨p, c, rfl, hh, k⟩ := h
    refine ⟨_, PSs.nox (pss_cut (ps_set (i := 1) scDeep.nd rfl (Or.inl rfl) (pe_ix ix_list (pe_lst (pa_cons pe_non (pa_cons (pe_tup pa_nil) (pa_cons pe_str pa_nil)))) (pcal C_draw hr rfl (pa_cons (pv 0) (pa_cons pe_int pa_nil))) (fun _ _ => rfl)))
    (pss_cut (ps_for PassesOwn.never rfl (pi_range1 rfl T.b_range (pa_cons (pe_op op_add pe_int (pcal C_draw hr rfl (pa_cons (pv 0) (pa_cons pe_int pa_nil)))) pa_nil)) (pg_name (i := 2) scDeep.nd rfl (Or.inl rfl)) (pss_one (ps_set (i := 1) scDeep.nd rfl (Or.inl rfl) (pe_ix ix_list (pe_lst (pa_cons (pe_lst (pa_cons (pv 1) pa_nil)) (pa_cons (pe_tup (pa_cons (pv 1) pa_nil)) (pa_cons (pe_disp (pps_cons pe_int (pv 1) pps_nil) (by rfl) (by rfl) (fun z => by cases z) (by decide)) pa_nil)))) (pcal C_draw hr rfl (pa_cons (pv 0) (pa_cons pe_int pa_nil))) (fun _ _ => rfl)))))
    (pss_one (ps_ret (pv 1))))), ?_⟩
    refine ⟨DeepMid p c H, ?_, ?_⟩
    · -- found = [None, (), 'x'][draw(3)]
      refine ⟨by decide, fun t nt => ⟨by show 3 ≤ sizeLine; decide, fun l nl => ?_⟩⟩
      have k1 : Kp p H (upd (upd H t (.tup [])) l (.lst [.non, .ref t, .str "x"])) := ((Kp.refl p H).new nt).new nl
      have hh1 := (hh.new (o := .tup []) nt).new (o := .lst [.non, .ref t, .str "x"]) nl
      have ntl : t ≠ l := ne_of_none upd_same nl
      have nlp : l ≠ p := by
        obtain ⟨o, e⟩ := (hh.new (o := .tup []) nt).some
        exact (ne_of_none e nl).symm
      have ntp : t ≠ p := by
        obtain ⟨o, e⟩ := hh.some
        exact (ne_of_none e nt).symm
      refine ⟨_, rfl, p, c, 3, rfl, hh1, by decide, by decide, fun d H' d0 d3 hh' ch => ?_⟩
      have ht : H' t = some (.tup []) := by
        rw [ch t ntp, upd_ne ntl]
        exact upd_same
      obtain ⟨x, hx, hd⟩ := three d0 d3 (Deep H') (a := .non) (b := .ref t) (c := .str "x") .non (.nil ht) .str
      refine ⟨l, _, _, x, rfl, rfl, SqL.of (by rw [ch l nlp]; exact upd_same), hx, ?_⟩
      exact ⟨x, _, rfl, hh', k1.trans ch.kp, hd⟩
    · rintro σ' H' ⟨v, t, rfl, hh', k1, hd⟩
      refine ⟨DeepMid p c H, ?_, ?_⟩
      · refine ⟨_, rfl, p, c, 8, rfl, hh', by decide, by decide, fun d H2 d0 d8 hh2 ch => ?_⟩
        refine ⟨_, _, rfl, rfl, _, rfl, by omega, by omega, ?_⟩
        refine for_range (fun _ => DeepMid p c H) ⟨v, t, rfl, hh2, k1.trans ch.kp, hd.kp hh' ch.kp⟩ ?_ (fun _ _ h => h)
        rintro i σ3 H3 hi ⟨v, t, rfl, hh3, k3, hd3⟩
        -- found = [[found], (found,), {0: found}][draw(3)]
        refine ⟨_, rfl, by show 1 ≤ sizeLine; decide, fun a na => ⟨_, rfl, by show 1 ≤ sizeLine; decide, fun b nb => ?_⟩⟩
        intro e ne
        refine ⟨_, rfl, upd_same, [(.inl 0, v)], rfl, by show 1 ≤ 15; decide, by show 3 ≤ sizeLine; decide, fun l nl => ?_⟩
        have eu : (upd (upd (upd (upd H3 a (.lst [v])) b (.tup [v])) e (.dK [])) e (.dK (mergeK [] [(.inl 0, v)]))) = upd (upd (upd H3 a (.lst [v])) b (.tup [v])) e (.dK [(.inl 0, v)]) := upd_upd
        rw [eu] at nl ⊢
        have sa := same_new (o := .lst [v]) na
        have sb := same_new (o := .tup [v]) nb
        have se := same_new (o := .dK [(.inl 0, v)]) ne
        have sl := same_new (o := .lst [.ref a, .ref b, .ref e]) nl
        have s3 : Same H3 _ := ((sa.trans sb).trans se).trans sl
        have hh4 := hh3.kp s3
        have pn : ∀ {G : Hp} {x : Addr}, Same H3 G → G x = none → x ≠ p := fun sG n => by
          obtain ⟨o, eo⟩ := hh3.some
          exact (ne_of_none (sG _ _ eo) n).symm
        have hd4 := hd3.same s3
        refine ⟨_, rfl, p, c, 3, rfl, hh4, by decide, by decide, fun d H5 d0 d3 hh5 ch => ?_⟩
        have hd5 : Deep H5 v := hd4.kp hh4 ch.kp
        have ha : H5 a = some (.lst [v]) := by
          rw [ch a (pn (fun _ _ z => z) na)]
          exact sl _ _ (se _ _ (sb _ _ upd_same))
        have hb : H5 b = some (.tup [v]) := by
          rw [ch b (pn sa nb)]
          exact sl _ _ (se _ _ upd_same)
        have he : H5 e = some (.dK [(.inl 0, v)]) := by
          rw [ch e (pn (sa.trans sb) ne)]
          exact sl _ _ upd_same
        have hl5 : H5 l = some (.lst [.ref a, .ref b, .ref e]) := by
          rw [ch l (pn ((sa.trans sb).trans se) nl)]
          exact upd_same
        obtain ⟨x, hx, hdx⟩ := three d0 d3 (Deep H5) (a := .ref a) (b := .ref b) (c := .ref e) (.lst ha hd5) (.tup hb hd5) (.dic he hd5)
        refine ⟨l, _, _, x, rfl, rfl, SqL.of hl5, hx, ?_⟩
        refine ⟨x, _, rfl, hh5, k3.trans (Kp.trans (fun z o _ eo => s3 z o eo) ch.kp), hdx⟩
      · rintro σ' H' ⟨v, t, rfl, hh', k1, hd⟩
        exact ⟨_, rfl, k v H' hh' k1 hd⟩
end

end K05
set_option Elab.async false
set_option linter.all false
set_option maxRecDepth 100000
set_option maxHeartbeats 4000000
namespace K05
open PySem PySem.Spec PyProof.Rows L2 ZX PM ZR
abbrev sLPlain : Stmt := top 43
theorem HandAt.pt {H H' : Hp} {p c : Addr} (h : HandAt H p c) (k : Kp p H H') : Pt H H' := by
  obtain ⟨cs, i, g, kk, d, h⟩ := h
  exact Kp.pt h.hp k
theorem HandAt.away {H1 H' : Hp} {p c D : Addr} {o : HO} (h : HandAt H' p c) (h1 : HandAt H1 p c) (n : H1 D = none) : HandAt (upd H' D o) p c := by
  obtain ⟨cs, i, g, kk, d, h⟩ := h
  obtain ⟨cs1, i1, g1, kk1, d1, h1⟩ := h1
  exact ⟨cs, i, g, kk, d, by rw [upd_ne (ne_of_none h1.hp n)]; exact h.hp, by rw [upd_ne (ne_of_none h1.hc n)]; exact h.hc, h.ne, h.nn, h.i0, h.g0, h.k0, h.d0⟩
/-- words and ops to draw from -/
structure Two (H : Hp) (p c wa oa : Addr) (ws os : List Str) : Prop where
  hh : HandAt H p c
  hw : H wa = some (.lst (ws.map V.str))
  ho : H oa = some (.lst (os.map V.str))
  nw : wa ≠ p
  no : oa ≠ p
  ew : ws ≠ []
  eo : os ≠ []
  lw : ws.length < 1000
  lo : os.length < 1000
theorem Two.kp {H H' : Hp} {p c wa oa : Addr} {ws os : List Str} (t : Two H p c wa oa ws os) (hh : HandAt H' p c) (k : Kp p H H') : Two H' p c wa oa ws os :=
  ⟨hh, k _ _ t.nw t.hw, k _ _ t.no t.ho, t.nw, t.no, t.ew, t.eo, t.lw, t.lo⟩
theorem Two.same {H H' : Hp} {p c wa oa : Addr} {ws os : List Str} (t : Two H p c wa oa ws os) (s : Same H H') : Two H' p c wa oa ws os := t.kp (t.hh.kp s) s.kp
/-- no large number given -/
def giveR : Rw → Prop
  | .give _ i => i.natAbs < 10 ^ 30
  | _ => True
/-- drawn from these -/
def DrR (ws os : List Str) : Rw → Prop
  | .note x o ps => x ∈ ws ∧ o ∈ os ∧ ps.length ≤ 3 ∧ ∀ y ∈ ps, y ∈ ws
  | .copy x y => x ∈ ws ∧ y ∈ ws
  | .give x i => x ∈ ws ∧ i.natAbs < 10 ^ 30
  | .ask x => x ∈ ws
  | .prt x => x ∈ ws
  | .either _ _ => True
  | .again _ => True
def spLPlain (K : PySem.W.Frag) : Sp := fun vs H Q _ => ∃ (p c wa oa : Addr) (ws os : List Str), vs = [.ref p, .ref wa, .ref oa] ∧ Two H p c wa oa ws os ∧ ∀ v r H', HandAt H' p c → Kp p H H' → RV K H' v r → inner r = [] → DrR ws os r → Q v H'
theorem any_of {K : PySem.W.Frag} {H : Hp} {Q : VK} {E : XK} {p c t : Addr} {xs : List Str} (hh : HandAt H p c) (ne : t ≠ p) (h : H t = some (.lst (xs.map V.str))) (hx : xs ≠ []) (hl : xs.length < 1000) (k : ∀ x H', x ∈ xs → HandAt H' p c → Kp p H H' → Q (.str x) H') : spAny K [.ref p, .ref t] H Q E :=
  ⟨p, c, t, xs.map V.str, rfl, hh, ne, .inl (SqL.of h), by simpa using hx, by rw [List.length_map]; omega, fun x H' hx hh' ch => by
    obtain ⟨y, hy, rfl⟩ := List.mem_map.mp hx
    exact k y H' hy hh' ch.kp⟩
theorem strs_of {α : Type} {ws : List Str} : ∀ {n : List α} {ys : List V}, All2 (fun _ y => ∃ x ∈ ws, y = V.str x) n ys → ∃ ps : List Str, ys = ps.map V.str ∧ ∀ y ∈ ps, y ∈ ws
  | _, _, .nil => ⟨[], rfl, fun _ h => nomatch h⟩
  | _, _, .cons ⟨x, hx, e⟩ t => by
    obtain ⟨ps, rfl, h⟩ := strs_of t
    subst e
    exact ⟨x :: ps, rfl, fun y hy => (List.mem_cons.mp hy).elim (fun e => e ▸ hx) (h y)⟩
section
variable {P : Program} {w : World} {K : PySem.W.Frag} {mg : Str → Option Value} {base : Heap}
theorem scPlain_row : FnScope ["_law_hand_here", "_law_names_here", "_law_ops", "_law_x", "_law_y", "_law_kind", "_law_k"] ["_law_hand_here", "_law_names_here", "_law_ops"] (defScope sLPlain) := ⟨rfl, rfl, rfl, by decide +kernel, rfl, by decide +kernel, by decide +kernel⟩
theorem ok_lplain {f : Addr} {fd : FuncData} (F : FnP K "_law_plain_row" sLPlain f fd) (T : Bi mg) (C__law_draw : Cal P w K mg base "_law_draw" 1 ["_law_hand_here", "_law_many"] spDraw) (C__law_any : Cal P w K mg base "_law_any" 2 ["_law_hand_here", "_law_things"] (spAny K)) : FnOk P w K mg base CX0 3 f fd ["_law_hand_here", "_law_names_here", "_law_ops"] (spLPlain K) := by
  refine F.ok scPlain_row (fun vs H Q E h => ?_) (fun cdv A outer s H vs Q E hr h => ?_)
  · obtain ⟨p, c, wa, oa, ws, os, rfl, _⟩ := h
    rfl
  · obtain ⟨p, c, wa, oa, ws, os, rfl, t0, k⟩ := h
    have hr__law_draw := hr.mono (show 1 ≤ 2 by decide)
    have hr__law_any := hr
    refine ⟨_, PSs.nox (pss_cut (ps_par (by rfl) scPlain_row.nd (i := 3) (j := 4) rfl rfl (by decide) rfl rfl (pa_cons (pcal C__law_any hr__law_any rfl (pa_cons (pv 0) (pa_cons (pv 1) pa_nil))) (pa_cons (pcal C__law_any hr__law_any rfl (pa_cons (pv 0) (pa_cons (pv 1) pa_nil))) pa_nil)) (by rfl))
    (pss_cut (ps_set (i := 5) scPlain_row.nd rfl (Or.inl rfl) (pcal C__law_draw hr__law_draw rfl (pa_cons (pv 0) (pa_cons pe_int pa_nil))))
    (pss_cons (ps_if (pt_cmpR op_lt (pv 5) pe_int (nomark _)) (pss_one (ps_ret (pe_tup (pa_cons pe_str (pa_cons (pv 3) (pa_cons (pcal C__law_any hr__law_any rfl (pa_cons (pv 0) (pa_cons (pv 2) pa_nil))) (pa_cons (pe_callTy call_tuple_of (by rfl) T.b_tuple (by decide +kernel) (pa_cons (pe_lcS (own := [("_law_k", 6)]) (g := gName 6) (tt := tYes) (by rfl) scPlain_row.nd (pi_range1 rfl T.b_range (pa_cons (pcal C__law_draw hr__law_draw rfl (pa_cons (pv 0) (pa_cons pe_int pa_nil))) pa_nil)) (blkOk_by (N := ["_law_hand_here", "_law_names_here", "_law_ops", "_law_x", "_law_y", "_law_kind", "_law_k"]) (sc := defScope sLPlain) (by decide +kernel)) (fun _ _ _ _ _ => (pg_name (i := 6) scPlain_row.nd rfl (Or.inl rfl))) (fun _ _ _ _ _ => pts_nil) (fun _ _ _ _ _ => (pcal C__law_any hr__law_any rfl (pa_cons (pv 0) (pa_cons (pv 1) pa_nil))))) pa_nil)) pa_nil))))))) pss_nil)
    (pss_cons (ps_if (pt_cmpR op_eq (pv 5) pe_int (nomark _)) (pss_one (ps_ret (pe_tup (pa_cons pe_str (pa_cons (pv 3) (pa_cons (pv 4) pa_nil)))))) pss_nil)
    (pss_cons (ps_if (pt_cmpR op_eq (pv 5) pe_int (nomark _)) (pss_one (ps_ret (pe_tup (pa_cons pe_str (pa_cons (pv 3) (pa_cons (pcal C__law_any hr__law_any rfl (pa_cons (pv 0) (pa_cons (pe_lst (pa_cons pe_int (pa_cons pe_int (pa_cons (pe_un un_neg pe_int) (pa_cons pe_int (pa_cons (pe_op op_pow pe_int pe_int) (pa_cons (pe_un un_neg pe_int) pa_nil))))))) pa_nil))) pa_nil)))))) pss_nil)
    (pss_one (ps_ret (pe_ix ix_list (pe_lst (pa_cons (pe_tup (pa_cons pe_str (pa_cons (pv 3) pa_nil))) (pa_cons (pe_tup (pa_cons pe_str (pa_cons (pv 3) pa_nil))) pa_nil))) (pe_op op_sub (pv 5) pe_int) (fun _ _ => rfl))))))))), ?_⟩
    refine ⟨fun σ' H' => ∃ x y, σ' = [some (.ref p), some (.ref wa), some (.ref oa), some (.str x), some (.str y), none, none] ∧ x ∈ ws ∧ y ∈ ws ∧ Two H' p c wa oa ws os ∧ Kp p H H', ?_, ?_⟩
    · refine ⟨_, rfl, _, rfl, any_of (E := E0) t0.hh t0.nw t0.hw t0.ew t0.lw fun x H1 hx hh1 k1 => ?_⟩
      have t1 := t0.kp hh1 k1
      refine ⟨_, rfl, _, rfl, any_of (E := E0) t1.hh t1.nw t1.hw t1.ew t1.lw fun y H2 hy hh2 k2 => ?_⟩
      exact ⟨_, _, rfl, x, y, rfl, hx, hy, t1.kp hh2 k2, k1.trans k2⟩
    · rintro σ1 H1 ⟨x, y, rfl, hx, hy, t1, k1⟩
      refine ⟨fun σ' H' => ∃ d : Int, σ' = [some (.ref p), some (.ref wa), some (.ref oa), some (.str x), some (.str y), some (.int d), none] ∧ 0 ≤ d ∧ d < 8 ∧ Two H' p c wa oa ws os ∧ Kp p H H', ?_, ?_⟩
      · exact ⟨_, rfl, p, c, 8, rfl, t1.hh, by decide, by decide, fun d H2 d0 d8 hh2 ch => ⟨d, rfl, d0, d8, t1.kp hh2 ch.kp, k1.trans ch.kp⟩⟩
      · rintro σ2 H2 ⟨d, rfl, d0, d8, t2, k2⟩
        refine ⟨_, rfl, _, _, rfl, rfl, _, rfl, ?_⟩
        refine ite2 (fun _ => ?_) (fun e1 => ?_)
        · -- note
          refine ⟨_, rfl, _, rfl, _, rfl, any_of (E := E0) t2.hh t2.no t2.ho t2.eo t2.lo fun o H3 ho hh3 k3 => ?_⟩
          have t3 := t2.kp hh3 k3
          refine lc_into ?_
          refine ⟨_, rfl, p, c, 4, rfl, t3.hh, by decide, by decide, fun n H4 n0 n4 hh4 ch4 => ?_⟩
          have t4 := t3.kp hh4 ch4.kp
          refine ⟨_, rfl, by omega, by omega, ?_⟩
          refine lc_overI (p := some p) (as := List.range n.toNat) (Rel := fun _ _ y => ∃ x ∈ ws, y = V.str x) (fun H => HandAt H p c) it_range ?_ (fun _ _ _ _ _ h => h) (fun a e => by cases e; exact t4.hh.some) ?_ (fun D hD => t4.hh.new hD) (fun D H' o hD h => h.away t4.hh hD) (fun _ _ _ _ => trivial) ?_ ?_
          · rw [List.length_map]
          · rw [List.length_map, List.length_range]
            exact Nat.lt_of_lt_of_le (show n.toNat < 4 by omega) (by decide)
          · intro i z e hz he H5 kq pt hh5 R kR
            have t5 := t4.kp hh5 kq.kp
            exact ⟨rfl, _, rfl, _, rfl, any_of (E := E0) t5.hh t5.nw t5.hw t5.ew t5.lw fun x H6 hx hh6 k6 => kR _ _ (Kp.kq k6) (hh5.pt k6) hh6 ⟨x, hx, rfl⟩⟩
          · intro D ys H5 kq pt hh5 nD hD all
            obtain ⟨ps, rfl, hps⟩ := strs_of all
            have hpl : ps.length ≤ 3 := by
              have := all.len
              rw [List.length_range, List.length_map] at this
              omega
            refine ⟨D, _, rfl, .inl ⟨SqL.of hD, fun t nt => ⟨by show 4 ≤ sizeLine; decide, fun q nq => ?_⟩⟩⟩
            have s5 := (same_new (o := .tup (ps.map V.str)) nt).trans (same_new (o := .tup [V.str "note", V.str x, V.str o, V.ref t]) nq)
            have k5 := (((k2.trans k3).trans ch4.kp).trans kq.kp).same s5
            refine k _ (.note x o ps) _ (hh5.kp s5) k5 (.tup (.inl (.inl upd_same)) (.cons (.str _) (.cons (.str _) (.cons (.str _) (.cons (.tup ((same_new nq).pt.sq (.inl (.inl upd_same))) Tvs.ofStrs) .nil))))) rfl ⟨hx, ho, hpl, hps⟩
        · refine ⟨_, rfl, rfl, _, rfl, ?_⟩
          refine ite2 (fun _ => ?_) (fun e2 => ?_)
          · -- copy
            refine ⟨_, rfl, _, rfl, by show 3 ≤ sizeLine; decide, fun q nq => ?_⟩
            have s5 := same_new (o := .tup [V.str "copy", V.str x, V.str y]) nq
            exact k _ (.copy x y) _ (t2.hh.kp s5) (k2.same s5) (.tup (.inl (.inl upd_same)) (.cons (.str _) (.cons (.str _) (.cons (.str _) .nil)))) rfl ⟨hx, hy⟩
          · refine ⟨_, rfl, rfl, _, rfl, ?_⟩
            refine ite2 (fun _ => ?_) (fun e3 => ?_)
            · -- give
              refine ⟨_, rfl, _, rfl, _, rfl, _, _, rfl, rfl, ⟨by decide, by decide, by decide⟩, _, rfl, by show 6 ≤ sizeLine; decide, fun l nl => ?_⟩
              have s3 := same_new (o := .lst [V.int 0, V.int 1, V.int (-1), V.int 7, V.int (10 ^ 29), V.int (-12)]) nl
              have nlp : l ≠ p := by
                obtain ⟨o, e⟩ := t2.hh.some
                exact (ne_of_none e nl).symm
              refine ⟨p, c, l, _, rfl, t2.hh.kp s3, nlp, .inl (SqL.of upd_same), by simp, by show 6 < 1073741824; decide, fun z H3 hz hh3 ch3 => ?_⟩
              obtain ⟨i, hi30, rfl⟩ : ∃ i, i.natAbs < 10 ^ 30 ∧ z = V.int i := by
                simp only [List.mem_cons, List.not_mem_nil, or_false] at hz
                rcases hz with e | e | e | e | e | e <;> exact ⟨_, by decide, e⟩
              refine ⟨by show 3 ≤ sizeLine; decide, fun q nq => ?_⟩
              have s5 := same_new (o := .tup [V.str "give", V.str x, V.int i]) nq
              exact k _ (.give x i) _ (hh3.kp s5) (((k2.same s3).trans ch3.kp).same s5) (.tup (.inl (.inl upd_same)) (.cons (.str _) (.cons (.str _) (.cons (.int _) .nil)))) rfl ⟨hx, hi30⟩
            · refine ⟨_, rfl, by show 2 ≤ sizeLine; decide, fun a na => ⟨_, rfl, by show 2 ≤ sizeLine; decide, fun b nb => ⟨by show 2 ≤ sizeLine; decide, fun l nl => ?_⟩⟩⟩
              have s3 := ((same_new (o := .tup [V.str "ask", V.str x]) na).trans (same_new (o := .tup [V.str "print", V.str x]) nb)).trans (same_new (o := .lst [V.ref a, V.ref b]) nl)
              have ha : SqT K (upd (upd (upd H2 a (.tup [V.str "ask", V.str x])) b (.tup [V.str "print", V.str x])) l (.lst [V.ref a, V.ref b])) a [V.str "ask", V.str x] := .inl (.inl (((same_new (o := .tup [V.str "print", V.str x]) nb).trans (same_new (o := .lst [V.ref a, V.ref b]) nl)) _ _ upd_same))
              have hb : SqT K (upd (upd (upd H2 a (.tup [V.str "ask", V.str x])) b (.tup [V.str "print", V.str x])) l (.lst [V.ref a, V.ref b])) b [V.str "print", V.str x] := .inl (.inl ((same_new (o := .lst [V.ref a, V.ref b]) nl) _ _ upd_same))
              have e : d = 6 ∨ d = 7 := by
                have q4 : ¬ d < 4 := fun z => e1 (decide_eq_true z)
                have q5 : ¬ d = 4 := fun z => e2 (decide_eq_true (by rw [z]))
                have q6 : ¬ d = 5 := fun z => e3 (decide_eq_true (by rw [z]))
                omega
              rcases e with rfl | rfl
              · exact ⟨_, rfl, _, _, rfl, rfl, l, _, _, V.ref a, rfl, rfl, SqL.of upd_same, rfl, k _ (.ask x) _ (t2.hh.kp s3) (k2.same s3) (.tup ha (.cons (.str _) (.cons (.str _) .nil))) rfl hx⟩
              · exact ⟨_, rfl, _, _, rfl, rfl, l, _, _, V.ref b, rfl, rfl, SqL.of upd_same, rfl, k _ (.prt x) _ (t2.hh.kp s3) (k2.same s3) (.tup hb (.cons (.str _) (.cons (.str _) .nil))) rfl hx⟩
end
end K05
set_option Elab.async false
set_option linter.all false
set_option maxRecDepth 100000
set_option maxHeartbeats 4000000
namespace K05
open PySem PySem.Spec PyProof.Rows L2 ZX PM ZR
abbrev sLSize : Stmt := top 45
abbrev sLRows : Stmt := top 47
def spLSize (K : PySem.W.Frag) (n : Nat) : Sp := fun vs H Q _ => ∃ (v : V) (b : List Rw), vs = [v] ∧ BV K H v b ∧ depB b < n ∧ (rowsB b).length ≤ 1000000 ∧ ∀ H', Same H H' → Q (.int ((rowsB b).length : Nat)) H'
theorem word_in (r : Rw) : inV (V.str (wordR r)) [V.str "either", V.str "again"] = !(inner r).isEmpty := by
  rw [word_inner, Bool.not_not]
  show (Str.ofString "either" == wordR r || (Str.ofString "again" == wordR r || false)) = _
  rw [Bool.or_false, BEq.comm, BEq.comm (a := Str.ofString "again")]
theorem inner_of {r : Rw} (h : (inner r).isEmpty = false) {K : PySem.W.Frag} {H : Hp} {tl : List V} (t : Tvs K H tl (argsR r)) : Tvs K H tl ((inner r).map fun b => .tuple (dB b)) := by
  rw [← inner_args r (fun e => by rw [e] at h; cases h)]
  exact t
section
variable {P : Program} {w : World} {K : PySem.W.Frag} {mg : Str → Option Value} {base : Heap}
theorem scLSize : FnScope ["_law_block_here", "_law_found", "_law_row", "_law_inner"] ["_law_block_here"] (defScope sLSize) := ⟨rfl, rfl, rfl, by decide +kernel, rfl, by decide +kernel, by decide +kernel⟩
theorem ok_lsize0 {f : Addr} {fd : FuncData} (k : Nat) : FnOk P w K mg base CX0 k f fd ["_law_block_here"] (spLSize K 0) :=
  ⟨fun vs H Q E h => by
    obtain ⟨_, _, _, _, h, _⟩ := h
    exact absurd h (Nat.not_lt_zero _), fun A outer s H args us vs Q E hr e0 hb r h => by
    obtain ⟨_, _, _, _, h, _⟩ := h
    exact absurd h (Nat.not_lt_zero _)⟩
theorem ok_lsize1 {n : Nat} {f : Addr} {fd : FuncData} (F : FnP K "_law_size" sLSize f fd) (T : Bi mg) (C__law_size : Cal P w K mg base "_law_size" (n + 1) ["_law_block_here"] (spLSize K n)) : FnOk P w K mg base CX0 (n + 2) f fd ["_law_block_here"] (spLSize K (n + 1)) := by
  refine F.ok scLSize (fun vs H Q E h => ?_) (fun cdv A outer s H vs Q E hr h => ?_)
  · obtain ⟨v, r, rfl, _⟩ := h
    rfl
  · obtain ⟨v, b, rfl, tv, hd, hn, k⟩ := h
    obtain ⟨a, xs, rfl, hS, ht⟩ := tv.tupI
    have hr__law_size := hr
    have hxl : xs.length = b.length := by rw [ht.len, dB_eq, List.length_map]
    refine ⟨_, PSs.nox (pss_cons (ps_set (i := 1) scLSize.nd rfl (Or.inl rfl) pe_int)
    (pss_cons (ps_for PassesOwn.never rfl (pi_tup (pv 0)) (pg_name (i := 2) scLSize.nd rfl (Or.inl rfl)) (pss_cons (ps_set (i := 1) scLSize.nd rfl (Or.inl rfl) (pe_op op_add (pv 1) pe_int))
      (pss_one (ps_if (pt_cmpR op_in_seq (pe_ix ix_tup (pv 2) pe_int (fun _ _ => rfl)) (pe_tup (pa_cons pe_str (pa_cons pe_str pa_nil))) (by with_unfolding_all rfl)) (pss_one (ps_set (i := 1) scLSize.nd rfl (Or.inl rfl) (pe_op op_add (pv 1) (pe_callB (cr_sum rfl) (by rfl) T.b_sum (by decide +kernel) (pa_cons (pe_lcS (own := [("_law_inner", 3)]) (g := gName 3) (tt := tYes) (by rfl) scLSize.nd (pi_tup (pe_slice sl_tup (pv 2) (po_some pe_int) po_none)) (blkOk_by (N := ["_law_block_here", "_law_found", "_law_row", "_law_inner"]) (sc := defScope sLSize) (by decide +kernel)) (fun _ _ _ _ _ => (pg_name (i := 3) scLSize.nd rfl (Or.inl rfl))) (fun _ _ _ _ _ => pts_nil) (fun _ _ _ _ _ => (pcal C__law_size hr__law_size rfl (pa_cons (pv 3) pa_nil)))) pa_nil))))) pss_nil))))
    (pss_one (ps_ret (pv 1))))), ?_⟩
    refine ⟨_, rfl, a, rfl, ⟨xs, hS⟩, ?_⟩
    refine for_tup (xs := xs) (fun i σ' H' => ∃ y z, σ' = [some (.ref a), some (.int (((b.take i).flatMap rowsR).length : Nat)), y, z] ∧ Same H H') ⟨_, _, rfl, fun _ _ h => h⟩ ?_ ?_ ?_
    · rintro i σ' H' _ ⟨y, z, rfl, sm⟩
      exact sm.pt.sq hS
    · rintro i x σ' H' hx ⟨y, z, rfl, sm⟩
      obtain ⟨r, hr, tr⟩ := (ht.pt sm.pt).nthR hx
      have hrm : r ∈ b := List.mem_of_getElem? hr
      have hle : ((b.take i).flatMap rowsR ++ rowsR r).length ≤ 1000000 := Nat.le_trans (fm_le1 hr) (by rw [← rowsB_eq]; exact hn)
      have htk : ((b.take (i + 1)).flatMap rowsR).length = ((b.take i).flatMap rowsR).length + 1 + ((inner r).flatMap rowsB).length := by
        rw [fm_take hr, rowsR_eq, List.length_append, List.length_cons]
        omega
      obtain ⟨ra, tl, rfl, hrS, hrt⟩ := tr.rowI
      refine ⟨_, rfl, _, _, rfl, rfl, _, rfl, _, _, _, _, rfl, rfl, hrS, at0, by decide, fun t nt => ?_⟩
      have pt := Pt.new (o := .tup [V.str "either", V.str "again"]) nt
      refine ⟨_, _, rfl, .inr (.inl (.inl upd_same)), rfl, rfl, _, rfl, ?_⟩
      show if inV (V.str (wordR r)) [V.str "either", V.str "again"] = true then _ else _
      cases hi : (inner r).isEmpty with
      | true =>
        refine ifBF (by rw [word_in, hi]; rfl) ?_
        refine ⟨some (.ref ra), z, ?_, sm.trans (same_new nt)⟩
        rw [htk, List.isEmpty_iff.mp hi]
        rfl
      | false =>
        refine ifB (by rw [word_in, hi]; rfl) ?_
        have hin := inner_of hi hrt
        refine ⟨_, rfl, ?_⟩
        refine lc_into ?_
        refine ⟨_, rfl, 1, rfl, ra, _, rfl, pt.sq hrS, cut1_ne, fun p np => ⟨p, rfl, ⟨_, .inl (.inl upd_same)⟩, ?_⟩⟩
        have s2 := (same_new (o := .tup [V.str "either", V.str "again"]) nt).trans (same_new (o := .tup (cutV (V.str (wordR r) :: tl) (some 1) none)) np)
        have hpS : SqT K (upd (upd H' t (.tup [V.str "either", V.str "again"])) p (.tup (cutV (V.str (wordR r) :: tl) (some 1) none))) p tl := by
          have e : cutV (V.str (wordR r) :: tl) (some 1) none = tl := cut1
          rw [e]
          exact .inl (.inl upd_same)
        refine lc_overA (p := none) (as := inner r) (zs := tl) (Rel := fun _ c y => y = .int ((rowsB c).length : Nat)) it_tup ?_ (fun _ _ _ _ _ h => h) (fun _ h => nomatch h) ?_ (fun H' _ pt => pt.sq hpS) ?_ ?_
        · rw [hin.len, List.length_map]
        · rw [hin.len, List.length_map]
          cases r <;> simp [inner] at hi ⊢ <;> decide
        · intro j z cb hz hcb H3 kq pt3 R kR
          obtain ⟨cb', hcb', tc⟩ := ((hin.pt s2.pt).pt pt3).nthB hz
          rw [hcb] at hcb'
          cases hcb'
          have hcm : cb ∈ inner r := List.mem_of_getElem? hcb
          have hle2 := fm_le1 (f := rowsB) hcb
          have hdp : depB cb < n := by
            have := dep_inner hcm
            have := depB_mem hrm
            omega
          have hln : (rowsB cb).length ≤ 1000000 := by
            rw [rowsR_eq, List.length_append, List.length_cons] at hle
            rw [List.length_append] at hle2
            omega
          exact ⟨rfl, _, rfl, z, cb, rfl, tc, hdp, hln, fun H4 s4 => kR _ _ (Same.kq s4) s4.pt rfl⟩
        · intro D ys H3 kq pt3 nD hD all
          have e := All2.map all
          subst e
          have hsum : (((inner r).map fun c => ((rowsB c).length : Nat)).map fun m : Nat => (m : Int)).sum = (((inner r).flatMap rowsB).length : Nat) := by
            induction inner r with
            | nil => rfl
            | cons c l ih =>
              rw [List.map_cons, List.map_cons, List.sum_cons, ih, List.flatMap_cons, List.length_append]
              omega
          refine ⟨D, ((inner r).map fun c => ((rowsB c).length : Nat)).map fun m : Nat => (m : Int), rfl, SqL.of (by rw [hD, List.map_map, List.map_map]; rfl), ?_⟩
          rw [hsum]
          refine ⟨_, _, rfl, rfl, some (.ref ra), z, ?_, (sm.trans s2).trans kq.same⟩
          rw [htk]
          show [_, some (V.int (_ + 1 + _)), _, _] = _
          congr 3
    · rintro σ' H' ⟨y, z, rfl, sm⟩
      have e : (b.take xs.length).flatMap rowsR = rowsB b := by rw [hxl, List.take_length, ← rowsB_eq]
      rw [e]
      exact ⟨_, rfl, k H' sm⟩
end
end K05
set_option Elab.async false
set_option linter.all false
set_option maxRecDepth 100000
set_option maxHeartbeats 4000000
namespace K05
open PySem PySem.Spec PyProof.Rows L2 ZX PM ZR
section
variable {P : Program} {w : World} {K : PySem.W.Frag} {mg : Str → Option Value} {base : Heap}
theorem scLRows : FnScope ["_law_block_here", "_law_found", "_law_row", "_law_inner"] ["_law_block_here"] (defScope sLRows) := ⟨rfl, rfl, rfl, by decide +kernel, rfl, by decide +kernel, by decide +kernel⟩
theorem ok_lrows0 {f : Addr} {fd : FuncData} (k : Nat) : FnOk P w K mg base CX0 k f fd ["_law_block_here"] (spRowsOf K 0) :=
  ⟨fun vs H Q E h => by
    obtain ⟨_, _, _, _, h, _⟩ := h
    exact absurd h (Nat.not_lt_zero _), fun A outer s H args us vs Q E hr e0 hb r h => by
    obtain ⟨_, _, _, _, h, _⟩ := h
    exact absurd h (Nat.not_lt_zero _)⟩
theorem ok_lrows1 {n : Nat} {f : Addr} {fd : FuncData} (F : FnP K "_law_rows" sLRows f fd) (T : Bi mg) (C__law_rows : Cal P w K mg base "_law_rows" (n + 1) ["_law_block_here"] (spRowsOf K n)) : FnOk P w K mg base CX0 (n + 2) f fd ["_law_block_here"] (spRowsOf K (n + 1)) := by
  refine F.ok scLRows (fun vs H Q E h => ?_) (fun cdv A outer s H vs Q E hr h => ?_)
  · obtain ⟨v, r, rfl, _⟩ := h
    rfl
  · obtain ⟨v, b, rfl, tv, hd, hn, k⟩ := h
    obtain ⟨a, xs, rfl, hS, ht⟩ := tv.tupI
    have hr__law_rows := hr
    refine ⟨_, PSs.nox (pss_cons (ps_set (i := 1) scLRows.nd rfl (Or.inl rfl) (pe_lst pa_nil))
    (pss_cons (ps_for PassesOwn.never rfl (pi_tup (pv 0)) (pg_name (i := 2) scLRows.nd rfl (Or.inl rfl)) (pss_cut (ps_expr (pe_bm PySem.F.plainAttrs_list PySem.F.slot_list_append PySem.F.type_list_append mt_append (pv 1) (pa_cons (pv 2) pa_nil)))
      (pss_one (ps_if (pt_cmpR op_in_seq (pe_ix ix_tup (pv 2) pe_int (fun _ _ => rfl)) (pe_tup (pa_cons pe_str (pa_cons pe_str pa_nil))) (by with_unfolding_all rfl)) (pss_one (ps_for PassesOwn.never rfl (pi_tup (pe_slice sl_tup (pv 2) (po_some pe_int) po_none)) (pg_name (i := 3) scLRows.nd rfl (Or.inl rfl)) (pss_one (ps_expr (pe_bm PySem.F.plainAttrs_list PySem.F.slot_list_extend PySem.F.type_list_extend mt_extend (pv 1) (pa_cons (pcal C__law_rows hr__law_rows rfl (pa_cons (pv 3) pa_nil)) pa_nil)))))) pss_nil))))
    (pss_one (ps_ret (pv 1))))), ?_⟩
    refine ⟨by decide, fun l nl => ?_⟩
    refine ⟨_, rfl, a, rfl, ⟨xs, (Pt.new nl).sq hS⟩, ?_⟩
    refine for_tup (xs := xs) (fun i σ' H' => ∃ y, RowsMid K (.ref a) l H ((b.take i).flatMap rowsR) y σ' H') ⟨_, [], _, rfl, same_new nl, upd_same, .nil⟩ ?_ ?_ ?_
    · rintro i σ' H' _ ⟨y, us, z, rfl, sm, hl, hu⟩
      exact sm.pt.sq hS
    · rintro i x σ' H' hx ⟨y, us, z, rfl, sm, hl, hu⟩
      obtain ⟨r, hr, tr⟩ := (ht.pt sm.pt).nthR hx
      have hle : ((b.take i).flatMap rowsR ++ rowsR r).length ≤ 1000000 := Nat.le_trans (fm_le1 hr) (by rw [← rowsB_eq]; exact hn)
      have hrm : r ∈ b := List.mem_of_getElem? hr
      rw [rowsR_eq, List.length_append, List.length_cons] at hle
      have hul := hu.len
      rw [List.length_map] at hul
      refine ⟨fun σ2 H2 => RowsMid K (.ref a) l H ((b.take i).flatMap rowsR ++ [r]) (some x) σ2 H2 ∧ RV K H2 x r, ?_, ?_⟩
      · refine ⟨_, rfl, .inl ⟨rfl, _, SqL.of hl⟩, _, rfl, l, us, x, rfl, rfl, hl, Nat.lt_of_le_of_lt (by omega : us.length ≤ 1000000) (by decide), ?_⟩
        have pt := Pt.lst (o := .lst (us ++ [x])) hl
        refine ⟨⟨us ++ [x], _, rfl, sm.put nl, upd_same, ?_⟩, tr.pt pt⟩
        rw [List.map_append]
        exact Tvs.app (hu.pt pt) (.cons (tr.pt pt) .nil)
      · rintro σ2 H2 ⟨⟨us, z, rfl, sm, hl, hu⟩, tr⟩
        obtain ⟨ra, tl, rfl, hrS, hrt⟩ := tr.rowI
        refine ⟨_, rfl, _, _, _, _, rfl, rfl, hrS, at0, by decide, fun t nt => ?_⟩
        have st := same_new (o := .tup [V.str "either", V.str "again"]) nt
        refine ⟨_, _, rfl, .inr (.inl (.inl upd_same)), rfl, rfl, _, rfl, ?_⟩
        show if inV (V.str (wordR r)) [V.str "either", V.str "again"] = true then _ else _
        cases hi : (inner r).isEmpty with
        | true =>
          refine ifBF (by rw [word_in, hi]; rfl) ?_
          refine ⟨some (.ref ra), us, z, rfl, sm.trans st, st _ _ hl, ?_⟩
          rw [fm_take hr, rowsR_eq, List.isEmpty_iff.mp hi]
          exact hu.pt st.pt
        | false =>
          refine ifB (by rw [word_in, hi]; rfl) ?_
          have hin := inner_of hi hrt
          refine ⟨_, rfl, 1, rfl, ra, _, rfl, st.pt.sq hrS, cut1_ne, fun c nc => ⟨c, rfl, ⟨_, .inl (.inl upd_same)⟩, ?_⟩⟩
          have e : cutV (V.str (wordR r) :: tl) (some 1) none = tl := cut1
          rw [e]
          have s3 := st.trans (same_new (o := .tup tl) nc)
          refine for_tup (xs := tl) (fun j σ' H' => RowsMid K (.ref a) l H ((b.take i).flatMap rowsR ++ r :: ((inner r).take j).flatMap rowsB) (some (.ref ra)) σ' H' ∧ Pt (upd (upd H2 t (.tup [V.str "either", V.str "again"])) c (.tup tl)) H') ⟨⟨us, _, rfl, sm.trans s3, s3 _ _ hl, hu.pt s3.pt⟩, Pt.refl _⟩ ?_ ?_ ?_
          · rintro j σ' H' _ ⟨_, p3⟩
            exact p3.sq (.inl (.inl upd_same))
          · rintro j y σ' H' hy ⟨⟨us, z, rfl, sm, hl, hu⟩, p3⟩
            obtain ⟨cb, hcb, tc⟩ := ((hin.pt s3.pt).pt p3).nthB hy
            have hle2 := fm_le1 (f := rowsB) hcb
            rw [List.length_append] at hle2
            have hcm : cb ∈ inner r := List.mem_of_getElem? hcb
            have hdp : depB cb < n := by
              have := dep_inner hcm
              have := depB_mem hrm
              omega
            have hul := hu.len
            rw [List.length_map, List.length_append, List.length_cons] at hul
            refine ⟨_, rfl, .inl ⟨rfl, _, SqL.of hl⟩, _, rfl, y, cb, rfl, tc, hdp, by omega, fun l2 zs H4 s4 n4 h4 t4 => ?_⟩
            have hzl := t4.len
            rw [List.length_map] at hzl
            refine ⟨l, l2, us, zs, rfl, rfl, s4 _ _ hl, h4, Nat.le_trans (by omega : us.length + zs.length ≤ 1000000) (by decide), ?_⟩
            have pt := Pt.lst (o := .lst (us ++ zs)) (s4 _ _ hl)
            refine ⟨⟨us ++ zs, _, rfl, (sm.trans s4).put nl, upd_same, ?_⟩, (p3.trans s4.pt).trans pt⟩
            rw [fm_take hcb, ← List.cons_append, ← List.append_assoc, List.map_append]
            exact Tvs.app ((hu.pt s4.pt).pt pt) (t4.pt pt)
          · rintro σ' H' ⟨⟨us, z, rfl, sm, hl, hu⟩, _⟩
            have e : tl.length = (inner r).length := by rw [hin.len, List.length_map]
            refine ⟨_, us, z, rfl, sm, hl, ?_⟩
            rw [fm_take hr, rowsR_eq]
            rw [e, List.take_length] at hu
            exact hu
    · rintro σ' H' ⟨y, us, z, rfl, sm, hl, hu⟩
      have e : xs.length = b.length := by rw [ht.len, dB_eq, List.length_map]
      rw [e, List.take_length, ← rowsB_eq] at hu
      exact ⟨_, rfl, k l us H' sm nl hl hu⟩
end
end K05
set_option Elab.async false
set_option linter.all false
set_option maxRecDepth 100000
set_option maxHeartbeats 4000000
namespace K05
open PySem PySem.Spec PyProof.Rows L2 ZX PM ZR
abbrev sLBlock : Stmt := top 44
/-- all names are words, no large number is given -/
def NmB (ws : List Str) (b : List Rw) : Prop := (∀ x ∈ (rowsB b).flatMap namesR, x ∈ ws) ∧ ∀ r ∈ rowsB b, giveR r
def NmR (ws : List Str) (r : Rw) : Prop := (∀ x ∈ (rowsR r).flatMap namesR, x ∈ ws) ∧ ∀ q ∈ rowsR r, giveR q
theorem NmB.nil {ws : List Str} : NmB ws [] := ⟨fun x h => (by cases h), fun x h => (by cases h)⟩
theorem rowsB_snoc (b : List Rw) (r : Rw) : rowsB (b ++ [r]) = rowsB b ++ rowsR r := by
  rw [rowsB_eq, rowsB_eq, List.flatMap_append]
  simp
theorem dB_snoc (b : List Rw) (r : Rw) : dB (b ++ [r]) = dB b ++ [dR r] := by
  rw [dB_eq, dB_eq, List.map_append]
  rfl
theorem NmB.snoc {ws : List Str} {b : List Rw} {r : Rw} (h : NmB ws b) (k : NmR ws r) : NmB ws (b ++ [r]) := ⟨fun x hx => by
  rw [rowsB_snoc, List.flatMap_append] at hx
  exact (List.mem_append.mp hx).elim (h.1 x) (k.1 x), fun q hq => by
  rw [rowsB_snoc] at hq
  exact (List.mem_append.mp hq).elim (h.2 q) (k.2 q)⟩
theorem okB_snoc {d : Nat} {r : Rw} : ∀ {b : List Rw}, okB d b → okR d r → okB d (b ++ [r])
  | [], _, k => ⟨k, trivial⟩
  | _ :: _, h, k => ⟨h.1, okB_snoc h.2 k⟩
theorem NmR.either {ws : List Str} {a b : List Rw} (h : NmB ws a) (k : NmB ws b) : NmR ws (.either a b) := ⟨fun x hx => by
  rw [rowsR, List.flatMap_cons, List.flatMap_append] at hx
  rcases List.mem_append.mp hx with hx | hx
  · cases hx
  · exact (List.mem_append.mp hx).elim (h.1 x) (k.1 x), fun q hq => by
  rw [rowsR] at hq
  rcases List.mem_cons.mp hq with rfl | hq
  · trivial
  · exact (List.mem_append.mp hq).elim (h.2 q) (k.2 q)⟩
theorem NmR.again {ws : List Str} {a : List Rw} (h : NmB ws a) : NmR ws (.again a) := ⟨fun x hx => by
  rw [rowsR, List.flatMap_cons] at hx
  rcases List.mem_append.mp hx with hx | hx
  · cases hx
  · exact h.1 x hx, fun q hq => by
  rw [rowsR] at hq
  rcases List.mem_cons.mp hq with rfl | hq
  · trivial
  · exact h.2 q hq⟩
/-- a plain row that was drawn -/
theorem DrR.ok {ws os : List Str} {r : Rw} {d : Nat} (h : DrR ws os r) (hi : inner r = []) (hw : ∀ x ∈ ws, NameOk x) (ho : ∀ x ∈ os, NameOk x) : okR d r ∧ NmR ws r ∧ (rowsR r).length = 1 := by
  have e : rowsR r = [r] := by rw [rowsR_eq, hi]; rfl
  have nm : (∀ x ∈ namesR r, x ∈ ws) → giveR r → NmR ws r := fun q g => ⟨fun x hx => by
    rw [e, List.flatMap_cons, List.flatMap_nil, List.append_nil] at hx
    exact q x hx, fun z hz => by
    rw [e, List.mem_singleton] at hz
    rw [hz]
    exact g⟩
  cases r with
  | note x o ps => exact ⟨⟨hw _ h.1, ho _ h.2.1, h.2.2.1, fun y hy => hw _ (h.2.2.2 y hy)⟩, nm (fun y hy => (List.mem_cons.mp hy).elim (fun e => e ▸ h.1) (h.2.2.2 y)) trivial, by rw [e]; rfl⟩
  | copy x y => exact ⟨⟨hw _ h.1, hw _ h.2⟩, nm (fun z hz => by
      simp [namesR] at hz
      rcases hz with rfl | rfl
      · exact h.1
      · exact h.2) trivial, by rw [e]; rfl⟩
  | give x i => exact ⟨hw _ h.1, nm (fun z hz => by
      simp [namesR] at hz
      subst hz
      exact h.1) h.2, by rw [e]; rfl⟩
  | ask x => exact ⟨hw _ h, nm (fun z hz => by
      simp [namesR] at hz
      subst hz
      exact h) trivial, by rw [e]; rfl⟩
  | prt x => exact ⟨hw _ h, nm (fun z hz => by
      simp [namesR] at hz
      subst hz
      exact h) trivial, by rw [e]; rfl⟩
  | either a b => cases hi
  | again a => cases hi
theorem _root_.ZX.Kp.fresh {p l : Addr} {H H' : Hp} {o : HO} (k : Kp p H H') (n : H l = none) : Kp p H (upd H' l o) := fun b u nb e => by
  rw [upd_ne (ne_of_none e n)]
  exact k b u nb e
/-- a block that was drawn, so deep, of so many rows at most -/
structure Drn (ws : List Str) (d m : Nat) (b : List Rw) : Prop where
  ok : okB d b
  nm : NmB ws b
  le : (rowsB b).length ≤ m
  l5 : b.length ≤ 5
def spLBlock (K : PySem.W.Frag) (n : Nat) : Sp := fun vs H Q _ => ∃ (p c wa oa : Addr) (ws os : List Str) (d m : Nat), vs = [.ref p, .ref wa, .ref oa, .int d, .int m] ∧ Two H p c wa oa ws os ∧ (∀ x ∈ ws, NameOk x) ∧ (∀ x ∈ os, NameOk x) ∧ 1 ≤ d ∧ d ≤ 4 ∧ d + n = 5 ∧ m ≤ 1000 ∧
  ∀ v b H', HandAt H' p c → Kp p H H' → BV K H' v b → Drn ws d m b → Q v H'
/-- between two turns -/
def BlkMid (K : PySem.W.Frag) (p c wa oa l : Addr) (ws : List Str) (d m : Nat) (H0 : Hp) (i : Nat) (σ : L2.St) (H : Hp) : Prop := ∃ (left : Nat) (us : List V) (b : List Rw) (y7 y8 y9 : Option V),
  σ = [some (.ref p), some (.ref wa), some (.ref oa), some (.int d), some (.int m), some (.ref l), some (.int left), y7, y8, y9, none] ∧ HandAt H p c ∧ Kp p H0 H ∧ H l = some (.lst us) ∧ Tvs K H us (dB b) ∧ okB d b ∧ NmB ws b ∧ left + (rowsB b).length = m ∧ b.length ≤ i
section
variable {P : Program} {w : World} {K : PySem.W.Frag} {mg : Str → Option Value} {base : Heap}
theorem scLBlock : FnScope ["_law_hand_here", "_law_names_here", "_law_ops", "_law_deep_here", "_law_most", "_law_rows_here", "_law_left", "_law_turn", "_law_inner", "_law_row", "_law_k"] ["_law_hand_here", "_law_names_here", "_law_ops", "_law_deep_here", "_law_most"] (defScope sLBlock) := ⟨rfl, rfl, rfl, by decide +kernel, rfl, by decide +kernel, by decide +kernel⟩
theorem ok_lblock0 {f : Addr} {fd : FuncData} (k : Nat) : FnOk P w K mg base CX0 k f fd ["_law_hand_here", "_law_names_here", "_law_ops", "_law_deep_here", "_law_most"] (spLBlock K 0) :=
  ⟨fun vs H Q E h => by
    obtain ⟨_, _, _, _, _, _, d, _, _, _, _, _, _, h1, h2, _⟩ := h
    omega, fun A outer s H args us vs Q E hr e0 hb r h => by
    obtain ⟨_, _, _, _, _, _, d, _, _, _, _, _, _, h1, h2, _⟩ := h
    omega⟩
theorem ok_lblock1 {n : Nat} {f : Addr} {fd : FuncData} (F : FnP K "_law_block" sLBlock f fd) (T : Bi mg) (C__law_draw : Cal P w K mg base "_law_draw" 1 ["_law_hand_here", "_law_many"] spDraw) (C__law_plain_row : Cal P w K mg base "_law_plain_row" 3 ["_law_hand_here", "_law_names_here", "_law_ops"] (spLPlain K)) (C__law_size : Cal P w K mg base "_law_size" 5 ["_law_block_here"] (spLSize K 4))
    (C__law_block : Cal P w K mg base "_law_block" (n + 5) ["_law_hand_here", "_law_names_here", "_law_ops", "_law_deep_here", "_law_most"] (spLBlock K n)) : FnOk P w K mg base CX0 (n + 6) f fd ["_law_hand_here", "_law_names_here", "_law_ops", "_law_deep_here", "_law_most"] (spLBlock K (n + 1)) := by
  refine F.ok scLBlock (fun vs H Q E h => ?_) (fun cdv A outer s H vs Q E hr h => ?_)
  · obtain ⟨p, c, wa, oa, ws, os, d, m, rfl, _⟩ := h
    rfl
  · obtain ⟨p, c, wa, oa, ws, os, d, m, rfl, t0, hw, ho, d1, d4, dn, m0, k⟩ := h
    have hr__law_draw := hr.mono (show 1 ≤ n + 5 by omega)
    have hr__law_plain_row := hr.mono (show 3 ≤ n + 5 by omega)
    have hr__law_size := hr.mono (show 5 ≤ n + 5 by omega)
    have hr__law_block := hr
    refine ⟨_, PSs.nox (pss_cons (ps_set (i := 5) scLBlock.nd rfl (Or.inl rfl) (pe_lst pa_nil))
    (pss_cons (ps_set (i := 6) scLBlock.nd rfl (Or.inr rfl) (pv 4))
    (pss_cons (ps_for PassesOwn.never rfl (pi_range1 rfl T.b_range (pa_cons (pcal C__law_draw hr__law_draw rfl (pa_cons (pv 0) (pa_cons (pe_cut (pe_ifExp (pt_cmpR op_eq (pv 3) pe_int (nomark _)) pe_int pe_int)) pa_nil))) pa_nil)) (pg_name (i := 7) scLBlock.nd rfl (Or.inl rfl)) (pss_one (ps_if (pt_cut (PW.pt (pw_and (pt_cmpR op_gt (pv 6) pe_int (nomark _)) (pw_and (pt_cmpR op_lt (pv 3) pe_int (nomark _)) (pw_and1 (pt_cmpR op_eq (pcal C__law_draw hr__law_draw rfl (pa_cons (pv 0) (pa_cons pe_int pa_nil))) pe_int (nomark _))))))) (pss_cons (ps_setLcS (i := 8) (own := [("_law_k", 10)]) (g := gName 10) (tt := tYes) rfl scLBlock.nd rfl rfl (sw_true rfl rfl rfl (by decide +kernel)) (pi_range1 rfl T.b_range (pa_cons pe_int pa_nil)) (blkOk_by (N := ["_law_hand_here", "_law_names_here", "_law_ops", "_law_deep_here", "_law_most", "_law_rows_here", "_law_left", "_law_turn", "_law_inner", "_law_row", "_law_k"]) (sc := defScope sLBlock) (by decide +kernel)) (fun _ _ _ _ _ => (pg_name (i := 10) scLBlock.nd rfl (Or.inl rfl))) (fun _ _ _ _ _ => pts_nil) (fun _ _ _ _ _ => (pcal C__law_block hr__law_block rfl (pa_cons (pv 0) (pa_cons (pv 1) (pa_cons (pv 2) (pa_cons (pe_op op_add (pv 3) pe_int) (pa_cons (pe_op op_fdiv (pe_op op_sub (pv 6) pe_int) pe_int) pa_nil))))))))
        (pss_cut (ps_set (i := 9) scLBlock.nd rfl (Or.inl rfl) (pe_ix ix_list (pe_lst (pa_cons (pe_tup (pa_cons pe_str (pa_cons (pe_ix ix_list (pv 8) pe_int (fun _ _ => rfl)) (pa_cons (pe_ix ix_list (pv 8) pe_int (fun _ _ => rfl)) pa_nil)))) (pa_cons (pe_tup (pa_cons pe_str (pa_cons (pe_ix ix_list (pv 8) pe_int (fun _ _ => rfl)) pa_nil))) pa_nil))) (pcal C__law_draw hr__law_draw rfl (pa_cons (pv 0) (pa_cons pe_int pa_nil))) (fun _ _ => rfl)))
        (pss_cons (ps_expr (pe_bm PySem.F.plainAttrs_list PySem.F.slot_list_append PySem.F.type_list_append mt_append (pv 5) (pa_cons (pv 9) pa_nil)))
        (pss_one (ps_set (i := 6) scLBlock.nd rfl (Or.inr rfl) (pe_op op_sub (pv 6) (pcal C__law_size hr__law_size rfl (pa_cons (pe_tup (pa_cons (pv 9) pa_nil)) pa_nil)))))))) (pss_one (ps_if (pt_cmpR op_gt (pv 6) pe_int (nomark _)) (pss_cons (ps_expr (pe_bm PySem.F.plainAttrs_list PySem.F.slot_list_append PySem.F.type_list_append mt_append (pv 5) (pa_cons (pcal C__law_plain_row hr__law_plain_row rfl (pa_cons (pv 0) (pa_cons (pv 1) (pa_cons (pv 2) pa_nil)))) pa_nil)))
          (pss_one (ps_set (i := 6) scLBlock.nd rfl (Or.inr rfl) (pe_op op_sub (pv 6) pe_int)))) pss_nil)))))
    (pss_one (ps_ret (pe_callTy call_tuple_of (by rfl) T.b_tuple (by decide +kernel) (pa_cons (pv 5) pa_nil))))))), ?_⟩
    refine ⟨by decide, fun l nl => ?_⟩
    have sl := same_new (o := .lst []) nl
    have nlp : l ≠ p := by
      obtain ⟨o, e⟩ := t0.hh.some
      exact (ne_of_none e nl).symm
    refine ⟨_, rfl, _, rfl, ?_⟩
    refine ⟨fun v H' => (∃ j : Int, v = .int j ∧ (j = 6 ∨ j = 4)) ∧ H' = upd H l (.lst []), ?_, ?_⟩
    · refine ⟨_, rfl, rfl, _, rfl, ?_⟩
      refine ite2 (fun _ => ?_) (fun _ => ?_)
      · exact ⟨⟨6, rfl, .inl rfl⟩, rfl⟩
      · exact ⟨⟨4, rfl, .inr rfl⟩, rfl⟩
    · rintro v H1 ⟨⟨j, rfl, hj⟩, rfl⟩
      refine ⟨p, c, j, rfl, t0.hh.kp sl, by omega, by omega, fun e H2 e0 ej hh2 ch2 => ?_⟩
      refine ⟨_, rfl, by omega, by omega, ?_⟩
      refine for_range (fun i => BlkMid K p c wa oa l ws d m H i) ⟨m, [], [], _, _, _, rfl, hh2, sl.kp.trans ch2.kp, by rw [ch2 l nlp]; exact upd_same, .nil, trivial, .nil, rfl, Nat.zero_le _⟩ ?_ ?_
      · rintro i σ' H' hi ⟨left, us, b, y7, y8, y9, rfl, hh, kp, hl, hu, hok, hnm, hle, hbi⟩
        have t1 := t0.kp hh kp
        refine ⟨fun b' H2 => HandAt H2 p c ∧ Kp p H' H2 ∧ (b' = true → 0 < left ∧ d < 4), ?_, ?_⟩
        · refine ⟨_, rfl, _, _, rfl, rfl, _, rfl, ?_⟩
          refine ite2 (fun e1 => ?_) (fun _ => ⟨hh, Kp.refl _ _, fun z => nomatch z⟩)
          refine ⟨_, rfl, _, _, rfl, rfl, _, rfl, ?_⟩
          refine ite2 (fun e2 => ?_) (fun _ => ⟨hh, Kp.refl _ _, fun z => nomatch z⟩)
          refine ⟨_, rfl, p, c, 3, rfl, hh, by decide, by decide, fun z H2 _ _ hh2 ch2 => ?_⟩
          have q1 : (left : Int) > 0 := of_decide_eq_true e1
          have q2 : (d : Int) < 4 := of_decide_eq_true e2
          exact ⟨rfl, _, rfl, hh2, ch2.kp, fun _ => ⟨by omega, by omega⟩⟩
        · rintro b' H2 ⟨hh2, k2, hb'⟩
          have t2 := t1.kp hh2 k2
          have kp2 := kp.trans k2
          have hl2 := k2 _ _ nlp hl
          have hu2 := hu.pt (hh.pt k2)
          have hul := hu.len
          rw [dB_eq, List.length_map] at hul
          cases b' with
          | true =>
            obtain ⟨q1, q2⟩ := hb' rfl
            refine ifB rfl ?_
            refine lc_into ?_
            refine ⟨_, rfl, by decide, by decide, ?_⟩
            refine lc_overI (p := some p) (as := [0, 1]) (Rel := fun H (_ : Nat) y => ∃ bi, BV K H y bi ∧ Drn ws (d + 1) ((left - 1) / 2) bi) (fun H => HandAt H p c) it_range rfl (fun _ _ _ _ pt ⟨bi, h1, h2⟩ => ⟨bi, Tv.pt pt h1, h2⟩) (fun a e => by cases e; exact t2.hh.some) (by show 2 < sizeLine; decide) (fun D hD => t2.hh.new hD) (fun D H' o hD h => h.away t2.hh hD) (fun _ _ _ _ => trivial) ?_ ?_
            · intro i z e hz he H3 kq pt hh3 R kR
              have t3 := t2.kp hh3 kq.kp
              have ed : ((d : Int) + 1) = ((d + 1 : Nat) : Int) := by omega
              have em : ((left : Int) - 1) / 2 = (((left - 1) / 2 : Nat) : Int) := by omega
              refine ⟨rfl, _, rfl, _, rfl, _, rfl, _, rfl, _, _, rfl, rfl, _, rfl, _, _, rfl, rfl, _, _, rfl, rfl, ⟨by decide, by decide⟩, p, c, wa, oa, ws, os, d + 1, (left - 1) / 2, ?_, t3, hw, ho, by omega, by omega, by omega, by omega, fun v bi H4 hh4 k4 tv hd => kR _ _ (Kp.kq k4) (hh3.pt k4) hh4 ⟨bi, tv, hd⟩⟩
              rw [← ed, ← em]
              rfl
            · intro D ys H3 kq pt3 hh3 nD hD all
              obtain ⟨y0, y1, rfl, b0, b1, tb0, g0, tb1, g1⟩ : ∃ y0 y1, ys = [y0, y1] ∧ ∃ b0 b1, BV K H3 y0 b0 ∧ Drn ws (d + 1) ((left - 1) / 2) b0 ∧ BV K H3 y1 b1 ∧ Drn ws (d + 1) ((left - 1) / 2) b1 := by
                cases all with
                | cons h0 t => cases t with
                  | cons h1 t => cases t with
                    | nil =>
                      obtain ⟨b0, h0, g0⟩ := h0
                      obtain ⟨b1, h1, g1⟩ := h1
                      exact ⟨_, _, rfl, b0, b1, h0, g0, h1, g1⟩
              have kp3 := kp2.trans kq.kp
              have hl3 := kq.kp _ _ nlp hl2
              have hu3 := hu2.pt pt3
              refine ⟨fun σ' H' => ∃ v r, σ' = [some (.ref p), some (.ref wa), some (.ref oa), some (.int d), some (.int m), some (.ref l), some (.int left), some (.int (0 + (i : Nat))), some (.ref D), some v, none] ∧ HandAt H' p c ∧ Kp p H H' ∧ H' l = some (.lst us) ∧ Tvs K H' us (dB b) ∧ RV K H' v r ∧ okR d r ∧ NmR ws r ∧ (rowsR r).length ≤ left, ?_, ?_⟩
              · refine ⟨_, rfl, D, _, _, _, rfl, rfl, SqL.of hD, rfl, _, rfl, D, _, _, _, rfl, rfl, SqL.of hD, rfl, by show 3 ≤ sizeLine; decide, fun a na => ?_⟩
                have sa := same_new (o := .tup [V.str "either", y0, y1]) na
                refine ⟨_, rfl, D, _, _, _, rfl, rfl, SqL.of (sa _ _ hD), rfl, by show 2 ≤ sizeLine; decide, fun b' nb => ⟨by show 2 ≤ sizeLine; decide, fun l2 nl2 => ?_⟩⟩
                have sb := same_new (o := .tup [V.str "again", y0]) nb
                have sc := same_new (o := .lst [V.ref a, V.ref b']) nl2
                have sA := (sa.trans sb).trans sc
                have nl2p : l2 ≠ p := by
                  obtain ⟨o, e⟩ := (hh3.kp (sa.trans sb)).some
                  exact (ne_of_none e nl2).symm
                refine ⟨_, rfl, p, c, 2, rfl, hh3.kp sA, by decide, by decide, fun e H4 e0 e2 hh4 ch4 => ?_⟩
                have pt4 : Pt H3 H4 := sA.pt.trans ((hh3.kp sA).pt ch4.kp)
                have pa : SqT K H4 a [V.str "either", y0, y1] := ((sb.trans sc).pt.trans ((hh3.kp sA).pt ch4.kp)).sq (.inl (.inl upd_same))
                have pb : SqT K H4 b' [V.str "again", y0] := (sc.pt.trans ((hh3.kp sA).pt ch4.kp)).sq (.inl (.inl upd_same))
                have hl4 : H4 l = some (.lst us) := by
                  rw [ch4 l nlp]
                  exact sA _ _ hl3
                have hlist : H4 l2 = some (.lst [V.ref a, V.ref b']) := by
                  rw [ch4 l2 nl2p]
                  exact upd_same
                have kp4 : Kp p H H4 := (kp3.same sA).trans ch4.kp
                have e' : e = 0 ∨ e = 1 := by omega
                rcases e' with rfl | rfl
                · refine ⟨l2, _, _, V.ref a, rfl, rfl, SqL.of hlist, rfl, V.ref a, .either b0 b1, rfl, hh4, kp4, hl4, hu3.pt pt4, .tup pa (.cons (.str _) (.cons (tb0.pt pt4) (.cons (tb1.pt pt4) .nil))), ⟨q2, by have := g0.l5; omega, by have := g1.l5; omega, g0.ok, g1.ok⟩, NmR.either g0.nm g1.nm, ?_⟩
                  have := g0.le
                  have := g1.le
                  rw [rowsR, List.length_cons, List.length_append]
                  omega
                · refine ⟨l2, _, _, V.ref b', rfl, rfl, SqL.of hlist, rfl, V.ref b', .again b0, rfl, hh4, kp4, hl4, hu3.pt pt4, .tup pb (.cons (.str _) (.cons (tb0.pt pt4) .nil)), ⟨q2, by have := g0.l5; omega, g0.ok⟩, NmR.again g0.nm, ?_⟩
                  have := g0.le
                  rw [rowsR, List.length_cons]
                  omega
              · rintro σ4 H4 ⟨v, r, rfl, hh4, kp4, hl4, hu4, tv, okr, nmr, hrl⟩
                refine ⟨_, rfl, .inl ⟨rfl, _, SqL.of hl4⟩, _, rfl, l, us, v, rfl, rfl, hl4, Nat.lt_of_le_of_lt (show us.length ≤ 5 by omega) (by decide), ?_⟩
                have pl := Pt.lst (o := .lst (us ++ [v])) hl4
                refine ⟨_, rfl, _, rfl, by show 1 ≤ sizeLine; decide, fun t nt => ?_⟩
                have st := same_new (o := .tup [v]) nt
                have hr1 : rowsB [r] = rowsR r := List.append_nil _
                have hdr := ok_depR okr (by omega)
                refine ⟨_, [r], rfl, .tup (.inl (.inl upd_same)) (.cons ((tv.pt pl).pt st.pt) .nil), by show max (depR r) 0 < 4; omega, by rw [hr1]; omega, fun H5 s5 => ?_⟩
                refine ⟨_, _, rfl, rfl, left - (rowsR r).length, us ++ [v], b ++ [r], some (.int (0 + (i : Nat))), some (.ref D), some v, ?_, ?_, ?_, s5 _ _ (st _ _ upd_same), ?_, okB_snoc hok okr, hnm.snoc nmr, ?_, ?_⟩
                · show [_, _, _, _, _, _, some (V.int ((left : Int) - (((rowsB [r]).length : Nat) : Int))), _, _, _, _] = _
                  rw [hr1, show ((left : Int) - (((rowsR r).length : Nat) : Int)) = ((left - (rowsR r).length : Nat) : Int) by omega]
                · exact (hh4.away t0.hh nl).kp (st.trans s5)
                · exact (kp4.fresh nl).same (st.trans s5)
                · rw [dB_snoc]
                  exact Tvs.app ((hu4.pt pl).pt (st.trans s5).pt) (.cons ((tv.pt pl).pt (st.trans s5).pt) .nil)
                · rw [rowsB_snoc, List.length_append]
                  omega
                · rw [List.length_append]
                  show b.length + 1 ≤ i + 1
                  omega
          | false =>
            refine ifBF rfl ?_
            refine ⟨_, rfl, _, _, rfl, rfl, _, rfl, ?_⟩
            refine ite2 (fun e1 => ?_) (fun e1 => ?_)
            · have q1 : (left : Int) > 0 := of_decide_eq_true e1
              refine ⟨_, rfl, .inl ⟨rfl, _, SqL.of hl2⟩, _, rfl, _, rfl, _, rfl, p, c, wa, oa, ws, os, rfl, t2, fun v r H3 hh3 k3 tv hi hd => ?_⟩
              obtain ⟨okr, nmr, l1⟩ := hd.ok (d := d) hi hw ho
              have hl3 := k3 _ _ nlp hl2
              refine ⟨l, us, v, rfl, rfl, hl3, Nat.lt_of_le_of_lt (show us.length ≤ 5 by omega) (by decide), ?_⟩
              refine ⟨_, rfl, _, _, rfl, rfl, left - 1, us ++ [v], b ++ [r], some (.int (0 + (i : Nat))), y8, y9, ?_, hh3.away t0.hh nl, (kp2.trans k3).fresh nl, upd_same, ?_, okB_snoc hok okr, hnm.snoc nmr, ?_, ?_⟩
              · show [_, _, _, _, _, _, some (V.int ((left : Int) - 1)), _, _, _, _] = _
                rw [show ((left : Int) - 1) = ((left - 1 : Nat) : Int) by omega]
              · rw [dB_snoc]
                have pl := Pt.lst (o := .lst (us ++ [v])) hl3
                exact Tvs.app ((hu2.pt (hh2.pt k3)).pt pl) (.cons (tv.pt pl) .nil)
              · rw [rowsB_snoc, List.length_append]
                omega
              · rw [List.length_append]
                show b.length + 1 ≤ i + 1
                omega
            · exact ⟨left, us, b, _, y8, y9, rfl, hh2, kp2, hl2, hu2, hok, hnm, hle, by omega⟩
      · rintro σ' H' ⟨left, us, b, y7, y8, y9, rfl, hh, kp, hl, hu, hok, hnm, hle, hbi⟩
        refine ⟨_, rfl, l, us, rfl, .inl ⟨SqL.of hl, fun t nt => ?_⟩⟩
        have st := same_new (o := .tup us) nt
        exact k _ b _ (hh.kp st) (kp.same st) (.tup (.inl (.inl upd_same)) (hu.pt st.pt)) ⟨hok, hnm, by omega, by omega⟩
end
end K05
set_option Elab.async false
set_option linter.all false
set_option maxRecDepth 100000
set_option maxHeartbeats 4000000
/-! Rules of my own: set(l), l a list of texts. -/
namespace ZR
open PySem PySem.Spec PyProof.Rows L2 ZX PM
section
variable {P : Program} {w : World} {A : Around} {E : Value → Shared → Prop} {s : Shared}
theorem strs_get : ∀ {us : List Value} {xs : List Str}, StrsAre us xs → ∀ (i : Nat) (v : Value), us[i]? = some v → ∃ x t, xs[i]? = some x ∧ v = .str x t
  | _, _, .nil, i, v, h => by simp at h
  | _, _, .cons n t hr, 0, v, h => by
    simp at h
    exact ⟨_, t, rfl, h.symm⟩
  | _, _, .cons n t hr, i + 1, v, h => by
    simp only [List.getElem?_cons_succ] at h
    obtain ⟨x, t', e1, e2⟩ := strs_get hr i v h
    exact ⟨x, t', by simpa using e1, e2⟩
theorem set_update_strs {I : Addr} {fp wr : List Addr} {G : Array GenState → Array GenState → Prop} {n : Nat} {Pv : Nat → Value → Prop} {St : Nat → Shared → Prop} {R : Result → Shared → Prop}
    (W : WalksS P w A.in1 I fp wr G n Pv St) (S : Addr) (hSf : S ∉ fp) (ns : List Str) (hn : n = ns.length) (hb : ns.length + 1 < scanBound) (hval : ∀ i v, Pv i v → ∃ k t, ns[i]? = some k ∧ v = .str k t) :
    ∀ (k i : Nat) (s : Shared), n - i = k → i ≤ n → St i s → SetS w s.heap S (insAll (ns.take i)) →
      (∀ s', Moved (S :: wr) G s s' → SetS w s'.heap S (insAll ns) → R (.ok (.ret .none)) s') →
      codeAny (model P w) A (.builtin "set.update.loop" ⟨[.ref S, .ref I], []⟩) R s := by
  have hSw : S ∉ wr := fun h => hSf (W.sub _ h)
  have hsub : ∀ b ∈ wr, b ∈ S :: wr := fun b hb => List.mem_cons_of_mem _ hb
  intro k
  induction k with
  | zero =>
    intro i s hk' hi hst hS hR
    have hin : i = n := by omega
    subst hin
    refine codeAny_builtin F.entry_set_update_loop ?_
    rw [Around.under_plainId F.plain_set_update_loop _]
    show wpAny _ A.in1 (pyNext (.ref I) >>= _) _ _ s
    refine wpAny_bind (W.done s _ _ hst fun s' hm => ?_)
    show wpAny _ A.in1 (ret Value.none) _ _ s'
    have e : ns.take i = ns := List.take_of_length_le (by omega)
    rw [e] at hS
    exact wpAny_pure (hR s' (hm.mono hsub) (hS.at fun o e => hm.heap S o hSw e))
  | succ k ih =>
    intro i s hk' hi hst hS hR
    have hlt : i < n := by omega
    refine codeAny_builtin F.entry_set_update_loop ?_
    rw [Around.under_plainId F.plain_set_update_loop _]
    show wpAny _ A.in1 (pyNext (.ref I) >>= _) _ _ s
    refine wpAny_bind (W.item i s _ _ hlt hst fun v s' hP hst' hm => ?_)
    obtain ⟨z, t, hz, rfl⟩ := hval i v hP
    have hS' : SetS w s'.heap S (insAll (ns.take i)) := hS.at fun o e => hm.heap S o hSw e
    have hil := (insAll_ok (ns.take i)).2.2
    rw [List.length_take] at hil
    show wpAny _ A.in1 (holding [Value.str z t] (setAdd S (.str z t)) >>= _) _ _ s'
    refine wpAny_bind (wpAny_holding ?_)
    unfold setAdd
    refine wpAny_holding ?_
    refine wpAny_bind ((PySem.strKind P w).pyHash (k := z) (strKind_is _ _ _ _) ?_)
    refine addS_hashed (s := { s' with toks := s'.toks + 1 }) hS' (by omega) fun h' _ hsb hS2 => ?_
    have hS3 : SetS w h' S (insAll (ns.take (i + 1))) := by
      rw [List.take_add_one, hz]
      show SetS w h' S (insAll (ns.take i ++ [z]))
      rw [insAll_snoc]
      exact hS2
    refine wpAny_pure ⟨plainId_quiet F.plain_set_update_loop _, ih (i + 1) _ (by omega) hlt (W.frame _ s' _ _ hst' (Nat.le_succ _) fun b hb o e => ?_) hS3 fun s'' hm'' hS'' => ?_⟩
    · rw [hsb.2 b (fun h : b = S => hSf (by rw [← h]; exact hb))]; exact e
    · refine hR s'' (Moved.trans W.gtrans ((hm.mono hsub).then_heap (Nat.le_succ _) fun b o hb e => ?_) hm'') hS''
      rw [hsb.2 b (fun h : b = S => hb (by rw [h]; exact List.mem_cons_self))]; exact e
set_option maxRecDepth 100000 in
set_option maxHeartbeats 3200000 in
theorem call_set_listT {l : Addr} {items : Array Value} (ns : List Str) {Q : Value → Shared → Prop} (hh : A.handled = none) (hl : s.heap.IsList l items) (hit : StrsAre items.toList ns) (hb : ns.length + 1 < scanBound)
    (h : ∀ (h' : Heap) (tk : Nat), SetS w h' s.heap.objs.size (insAll ns) → (∀ b o, s.heap.get? b = some o → h'.get? b = some o) → Q (.ref s.heap.objs.size) { s with heap := h', toks := tk }) :
    wpAny (model P w) A (call (.type "set") [.ref l]) Q E s := by
  have hisz : items.size = ns.length := by rw [← StrsAre.len_eq hit, Array.length_toList]
  obtain ⟨c, tl, hmro⟩ := F.called_set.mro
  have hmade := F.called_set.made
  have hsub := F.called_set.sub
  refine wpAny_call (codeAny_of_tree ?_)
  show wpAny _ _ (callAny (.type "set") _) _ _ _
  refine wpAny_pure ⟨Code.quiet_builtin _ (by decide +kernel), codeAny_builtin F.entry_type_call ?_⟩
  rw [Around.under_plain (weight_type_call_type "set" [.ref l] []) rfl]
  have h1 := F.called_set.notType
  have h2 := F.called_set.canCreate
  have hct := F.typeCall_set_1 (.ref l)
  repeat (any_goals (first | assumption | wp_step))

  refine codeAny_mono (code_set_led1 (.ref l) (E := E) (Q₁ := fun obj s₁ => obj = .ref s.heap.objs.size ∧ s₁ = { s with heap := s.heap.push { cls := .type "set", dict := none, data := .set #[] 0 (.fresh 0 0 (!w.params.followText "set-order")) } }) ⟨rfl, rfl⟩) fun r s₁ hr => ?_
  cases r with
  | error e => exact hr
  | ok fl =>
    cases fl with
    | ret obj =>
      obtain ⟨rfl, rfl⟩ := hr
      have hS : (s.heap.push { cls := .type "set", dict := none, data := .set #[] 0 (.fresh 0 0 (!w.params.followText "set-order")) }).get? s.heap.objs.size = some { cls := .type "set", dict := none, data := .set #[] 0 (.fresh 0 0 (!w.params.followText "set-order")) } := Heap.get?_push_size _ rfl
      have hT : Shared.TypeIs { s with heap := s.heap.push { cls := .type "set", dict := none, data := .set #[] 0 (.fresh 0 0 (!w.params.followText "set-order")) } } (.ref s.heap.objs.size) "set" := ⟨_, hS, rfl⟩
      have hli := F.called_set.init.lookup
      have hbi := F.called_set.init.bind (.ref s.heap.objs.size)
      repeat (any_goals (first | assumption | wp_step))

      refine codeAny_mono (codeAny_call_builtin (R := wants (fun r s₂ => r = .none ∧ ∃ h' tk, s₂ = { s with heap := h', toks := tk } ∧ SetS w h' s.heap.objs.size (insAll ns) ∧
          (∀ b o, s.heap.get? b = some o → h'.get? b = some o)) E) F.called_set.init.plain F.entry_set_init (check_set_init_1 hT ?_)) fun r₂ s₂ hr₂ => ?_
      · obtain ⟨ol, hol, hcl, nl, hdl⟩ := hl
        obtain ⟨ocls, odict, odata, oslots⟩ := ol
        simp only at hcl hdl
        subst hcl; subst hdl
        have hol' : (s.heap.push { cls := .type "set", dict := none, data := .set #[] 0 (.fresh 0 0 (!w.params.followText "set-order")) }).get? l = some { cls := .type "list", dict := odict, data := .seq items nl, slots := oslots } := Heap.get?_push_of_some _ hol
        have hsls := F.sub_list_set
        have hslf := F.sub_list_frozenset
        have hne : (Value.type "list" == Value.type "dict") = false := by decide
        have hl1 : (s.heap.push { cls := .type "set", dict := none, data := .set #[] 0 (.fresh 0 0 (!w.params.followText "set-order")) }).IsList l items := ⟨_, hol', rfl, nl, rfl⟩
        unfold Builtin.«set.__init__» noKeywords Builtin.Frozenset.updateFrom
        generalize hPI : pyIter = PI
        wp_walk
        subst hPI

        refine wpAny_pyIter_list hl1 ?_
        refine wpAny_bind (wpAny_runValue ?_)
        have hlS : l < s.heap.objs.size := Heap.lt_size hol
        have hh3 : A.in1.in1.in1.handled = none := by simp [hh]
        have hneI : l ≠ (s.heap.push { cls := .type "set", dict := none, data := .set #[] 0 (.fresh 0 0 (!w.params.followText "set-order")) }).objs.size := by
          rw [Heap.size_push]; exact Nat.ne_of_lt (Nat.lt_succ_of_lt hlS)
        have hSf : s.heap.objs.size ∉ [(s.heap.push { cls := .type "set", dict := none, data := .set #[] 0 (.fresh 0 0 (!w.params.followText "set-order")) }).objs.size, l] := by
          rw [Heap.size_push]; simp only [List.mem_cons, List.mem_singleton, List.not_mem_nil, or_false, not_or]
          exact ⟨Nat.ne_of_lt (Nat.lt_succ_self _), Nat.ne_of_gt hlS⟩
        have hval : ∀ (i : Nat) (v : Value), items[i]? = some v → ∃ k t, ns[i]? = some k ∧ v = .str k t := fun i v hv => strs_get hit i v (by rw [Array.getElem?_toList]; exact hv)
        refine set_update_strs ((Walks.list hh3 _ l hneI items).toS) s.heap.objs.size
          hSf ns hisz hb hval (items.size - 0) 0 _ (by omega) (Nat.zero_le _)
          ⟨⟨_, Heap.get?_push_size _ rfl, rfl, rfl⟩, (hl1.push _)⟩ ?hS0 ?hR
        case hS0 => exact (setS_fresh (h := s.heap) w).at fun o e => Heap.get?_push_of_some _ e
        case hR =>
          intro s' hm hS'
          obtain ⟨h', g2, d', tk', os'⟩ := s'
          have eg : g2 = s.gens := hm.gens
          have ed : d' = s.drawn := hm.drawn
          have eo : os' = s.os := hm.os
          subst eg; subst ed; subst eo
          show wpAny _ _ _ _ _ _
          refine wpAny_pure ?_
          show wpAny _ _ (ret Value.none) _ _ _
          refine wpAny_pure ⟨rfl, h', tk', rfl, hS', fun b o e => ?_⟩
          have hb0 : b < s.heap.objs.size := Heap.lt_size e
          have hb1 : b ≠ s.heap.objs.size := Nat.ne_of_lt hb0
          have hb2 : b ≠ (s.heap.push { cls := .type "set", dict := none, data := .set #[] 0 (.fresh 0 0 (!w.params.followText "set-order")) }).objs.size := by
            rw [Heap.size_push]; exact Nat.ne_of_lt (Nat.lt_succ_of_lt hb0)
          exact hm.heap b o (by simp only [List.mem_cons, List.mem_singleton, List.not_mem_nil, or_false, not_or]; exact ⟨hb1, hb2⟩) (Heap.get?_push_of_some _ (Heap.get?_push_of_some _ e))

      · cases r₂ with
        | error e => exact hr₂
        | ok fl₂ =>
          cases fl₂ with
          | ret r =>
            obtain ⟨rfl, h', tk, rfl, hS', hk'⟩ := hr₂
            repeat (any_goals (first | assumption | wp_step))
            exact h _ _ hS' hk'
          | _ => exact hr₂.elim
    | _ => exact hr.elim
end
/-- set(l), l a list of texts -/
def rSetTx (K : PySem.W.Frag) (w : World) : List V → Hp → VK → Prop := fun vs H Q => ∃ (a : Addr) (ks : List Str), vs = [V.ref a] ∧ SqL K H a (ks.map V.str) ∧ ks.length + 1 < scanBound ∧ ∀ p : Addr, H p = none → Q (.ref p) (upd H p (SetTO w p (insAll ks)))
theorem call_setTx {X : Cx} (hc : X.calm = true) : CallR X (.type "set") (rSetTx X.K X.w) := by
  intro pins s σ H vs us Q I r h
  obtain ⟨a, ks, rfl, ha, few, q⟩ := h
  rw [Vals.ref1 r]
  obtain ⟨its, rv, hl, hz⟩ := I.list ha
  refine call_set_listT ks (I.ok.hd hc) hl.isList (strsAre_of rv) few fun h' tk hS hk => ?_
  exact ⟨.ref s.heap.objs.size, _, I.laid (t' := tk) (o := SetTO X.w s.heap.objs.size (insAll ks)) hk (Nat.le_refl _) (setTO_new hS), rfl, q _ (I.hok.fresh (Nat.le_refl _))⟩
end ZR
set_option Elab.async false
set_option linter.all false
set_option maxRecDepth 100000
set_option maxHeartbeats 4000000
namespace K05
open PySem PySem.Spec PyProof.Rows L2 ZX PM ZR
abbrev sLDrawn : Stmt := top 46
abbrev sLNames : Stmt := top 48
instance (x : Str) : Decidable (NameOk x) := inferInstanceAs (Decidable (_ ∧ _ ∧ _))
def spLDrawn (K : PySem.W.Frag) : Sp := fun vs H Q _ => ∃ (p c : Addr), vs = [.ref p] ∧ HandAt H p c ∧ ∀ v b H', HandAt H' p c → Kp p H H' → BV K H' v b → Good b → (rowsB b).length ≤ 28 → (∀ r ∈ rowsB b, giveR r) → Q v H'
def spLNames (K : PySem.W.Frag) : Sp := fun vs H Q _ => ∃ (v : V) (b : List Rw), vs = [v] ∧ BV K H v b ∧ Good b ∧ ∀ t ys H', Same H H' → H t = none → IsLot ys ((rowsB b).flatMap namesR) → H' t = some (.tup (ys.map V.str)) → Q (.ref t) H'
section
variable {P : Program} {w : World} {K : PySem.W.Frag} {mg : Str → Option Value} {base : Heap}
theorem scLDrawn : FnScope ["_law_hand_here", "_law_names_here", "_law_ops"] ["_law_hand_here"] (defScope sLDrawn) := ⟨rfl, rfl, rfl, by decide +kernel, rfl, by decide +kernel, by decide +kernel⟩
theorem ok_ldrawn {f : Addr} {fd : FuncData} (F : FnP K "_law_drawn" sLDrawn f fd) (T : Bi mg) (C__law_draw : Cal P w K mg base "_law_draw" 1 ["_law_hand_here", "_law_many"] spDraw) (C__law_any : Cal P w K mg base "_law_any" 2 ["_law_hand_here", "_law_things"] (spAny K)) (C__law_block : Cal P w K mg base "_law_block" 9 ["_law_hand_here", "_law_names_here", "_law_ops", "_law_deep_here", "_law_most"] (spLBlock K 4)) : FnOk P w K mg base CX0 10 f fd ["_law_hand_here"] (spLDrawn K) := by
  refine F.ok scLDrawn (fun vs H Q E h => ?_) (fun cdv A outer s H vs Q E hr h => ?_)
  · obtain ⟨p, c, rfl, _⟩ := h
    rfl
  · obtain ⟨p, c, rfl, hh, k⟩ := h
    have hr__law_draw := hr.mono (show 1 ≤ 9 by decide)
    have hr__law_any := hr.mono (show 2 ≤ 9 by decide)
    have hr__law_block := hr
    refine ⟨_, PSs.nox (pss_cut (ps_set (i := 1) scLDrawn.nd rfl (Or.inl rfl) (pe_ix ix_list (pe_lst (pa_cons (pe_lst (pa_cons pe_str (pa_cons pe_str (pa_cons pe_str (pa_cons pe_str (pa_cons pe_str pa_nil)))))) (pa_cons (pe_lst (pa_cons pe_str (pa_cons pe_str pa_nil))) (pa_cons (pe_lst (pa_cons pe_str (pa_cons pe_str (pa_cons pe_str (pa_cons pe_str pa_nil))))) pa_nil)))) (pcal C__law_draw hr__law_draw rfl (pa_cons (pv 0) (pa_cons pe_int pa_nil))) (fun _ _ => rfl)))
    (pss_cut (ps_set (i := 2) scLDrawn.nd rfl (Or.inl rfl) (pcal C__law_any hr__law_any rfl (pa_cons (pv 0) (pa_cons (pe_lst (pa_cons (pe_lst (pa_cons pe_str (pa_cons pe_str pa_nil))) (pa_cons (pe_lst (pa_cons pe_str (pa_cons pe_str (pa_cons pe_str pa_nil)))) (pa_cons (pe_lst (pa_cons pe_str (pa_cons pe_str (pa_cons pe_str pa_nil)))) pa_nil)))) pa_nil))))
    (pss_one (ps_ret (pcal C__law_block hr__law_block rfl (pa_cons (pv 0) (pa_cons (pv 1) (pa_cons (pv 2) (pa_cons pe_int (pa_cons pe_int pa_nil)))))))))), ?_⟩
    have nep : ∀ {G : Hp} {x : Addr}, HandAt G p c → G x = none → x ≠ p := fun hg n => by
      obtain ⟨o, e⟩ := hg.some
      exact (ne_of_none e n).symm
    refine ⟨fun σ' H' => ∃ wa ws, σ' = [some (.ref p), some (.ref wa), none] ∧ HandAt H' p c ∧ Kp p H H' ∧ H' wa = some (.lst (ws.map V.str)) ∧ wa ≠ p ∧ (∀ x ∈ ws, NameOk x) ∧ ws ≠ [] ∧ ws.length ≤ 5, ?_, ?_⟩
    · refine ⟨by show 5 ≤ sizeLine; decide, fun a na => ⟨by show 2 ≤ sizeLine; decide, fun b nb => ⟨by show 4 ≤ sizeLine; decide, fun e ne => ⟨by show 3 ≤ sizeLine; decide, fun l nl => ?_⟩⟩⟩⟩
      have sa := same_new (o := .lst [V.str "x", V.str "yy", V.str "either", V.str "ask", V.str "z"]) na
      have sb := same_new (o := .lst [V.str "a", V.str "b"]) nb
      have se := same_new (o := .lst [V.str "abcdefgh", V.str "or", V.str "print", V.str "q"]) ne
      have sl := same_new (o := .lst [V.ref a, V.ref b, V.ref e]) nl
      have s4 := ((sa.trans sb).trans se).trans sl
      refine ⟨_, rfl, p, c, 3, rfl, hh.kp s4, by decide, by decide, fun d H' d0 d3 hh' ch => ?_⟩
      have ha : H' a = some (.lst (([Str.ofString "x", Str.ofString "yy", Str.ofString "either", Str.ofString "ask", Str.ofString "z"] : List Str).map V.str)) := by
        rw [ch a (nep hh na)]
        exact sl _ _ (se _ _ (sb _ _ upd_same))
      have hb : H' b = some (.lst (([Str.ofString "a", Str.ofString "b"] : List Str).map V.str)) := by
        rw [ch b (nep (hh.kp sa) nb)]
        exact sl _ _ (se _ _ upd_same)
      have he : H' e = some (.lst (([Str.ofString "abcdefgh", Str.ofString "or", Str.ofString "print", Str.ofString "q"] : List Str).map V.str)) := by
        rw [ch e (nep (hh.kp (sa.trans sb)) ne)]
        exact sl _ _ upd_same
      have hl : H' l = some (.lst [V.ref a, V.ref b, V.ref e]) := by
        rw [ch l (nep (hh.kp ((sa.trans sb).trans se)) nl)]
        exact upd_same
      have kp := (Same.kp (p := p) s4).trans ch.kp
      obtain ⟨x, hx, wa, ws, rfl, hw⟩ := three d0 d3 (fun x => ∃ wa ws, x = V.ref wa ∧ H' wa = some (.lst (ws.map V.str)) ∧ wa ≠ p ∧ (∀ x ∈ ws, NameOk x) ∧ ws ≠ [] ∧ ws.length ≤ 5) (a := .ref a) (b := .ref b) (c := .ref e)
        ⟨a, _, rfl, ha, nep hh na, by decide +kernel, by simp, by decide⟩ ⟨b, _, rfl, hb, nep (hh.kp sa) nb, by decide +kernel, by simp, by decide⟩ ⟨e, _, rfl, he, nep (hh.kp (sa.trans sb)) ne, by decide +kernel, by simp, by decide⟩
      exact ⟨l, _, _, _, rfl, rfl, SqL.of hl, hx, wa, ws, rfl, hh', kp, hw⟩
    · rintro σ1 H1 ⟨wa, ws, rfl, hh, k1, hw, nw, okw, ew, lw⟩
      refine ⟨fun σ' H' => ∃ oa os, σ' = [some (.ref p), some (.ref wa), some (.ref oa)] ∧ Two H' p c wa oa ws os ∧ Kp p H H' ∧ (∀ x ∈ os, NameOk x), ?_, ?_⟩
      · refine ⟨_, rfl, by show 2 ≤ sizeLine; decide, fun a na => ⟨by show 3 ≤ sizeLine; decide, fun b nb => ⟨by show 3 ≤ sizeLine; decide, fun e ne => ⟨by show 3 ≤ sizeLine; decide, fun l nl => ?_⟩⟩⟩⟩
        have sa := same_new (o := .lst [V.str "f", V.str "g"]) na
        have sb := same_new (o := .lst [V.str "add", V.str "again", V.str "or"]) nb
        have se := same_new (o := .lst [V.str "x", V.str "ask", V.str "abcdefgh"]) ne
        have sl := same_new (o := .lst [V.ref a, V.ref b, V.ref e]) nl
        have s4 := ((sa.trans sb).trans se).trans sl
        refine ⟨p, c, l, _, rfl, hh.kp s4, nep (hh.kp ((sa.trans sb).trans se)) nl, .inl (SqL.of upd_same), by simp, by show 3 < 1073741824; decide, fun x H' hx hh' ch => ?_⟩
        have ha : H' a = some (.lst (([Str.ofString "f", Str.ofString "g"] : List Str).map V.str)) := by
          rw [ch a (nep hh na)]
          exact sl _ _ (se _ _ (sb _ _ upd_same))
        have hb : H' b = some (.lst (([Str.ofString "add", Str.ofString "again", Str.ofString "or"] : List Str).map V.str)) := by
          rw [ch b (nep (hh.kp sa) nb)]
          exact sl _ _ (se _ _ upd_same)
        have he : H' e = some (.lst (([Str.ofString "x", Str.ofString "ask", Str.ofString "abcdefgh"] : List Str).map V.str)) := by
          rw [ch e (nep (hh.kp (sa.trans sb)) ne)]
          exact sl _ _ upd_same
        have kp := (k1.trans (Same.kp (p := p) s4)).trans ch.kp
        have hw' : H' wa = some (.lst (ws.map V.str)) := by
          rw [ch wa nw]
          exact s4 _ _ hw
        simp only [List.mem_cons, List.not_mem_nil, or_false] at hx
        rcases hx with rfl | rfl | rfl
        · exact ⟨a, _, rfl, ⟨hh', hw', ha, nw, nep hh na, ew, by simp, by omega, by decide⟩, kp, by decide +kernel⟩
        · exact ⟨b, _, rfl, ⟨hh', hw', hb, nw, nep (hh.kp sa) nb, ew, by simp, by omega, by decide⟩, kp, by decide +kernel⟩
        · exact ⟨e, _, rfl, ⟨hh', hw', he, nw, nep (hh.kp (sa.trans sb)) ne, ew, by simp, by omega, by decide⟩, kp, by decide +kernel⟩
      · rintro σ2 H2 ⟨oa, os, rfl, t2, k2, oko⟩
        exact ⟨_, rfl, _, rfl, _, rfl, p, c, wa, oa, ws, os, 1, 28, rfl, t2, okw, oko, by decide, by decide, rfl, by decide, fun v b H3 hh3 k3 tv hd => k v b H3 hh3 (k2.trans k3) tv ⟨hd.ok, by have := hd.l5; omega, by have := hd.le; omega, fun ys hy => by have := hy.le hd.nm.1; omega⟩ hd.le hd.nm.2⟩
end
end K05
set_option Elab.async false
set_option linter.all false
set_option maxRecDepth 100000
set_option maxHeartbeats 4000000
namespace K05
open PySem PySem.Spec PyProof.Rows L2 ZX PM ZR
def spLNamesW (K : PySem.W.Frag) : Sp := fun vs H Q _ => ∃ (v : V) (b : List Rw), vs = [v] ∧ BV K H v b ∧ okB 1 b ∧ (rowsB b).length ≤ 30 ∧ ∀ t ys H', Same H H' → H t = none → IsLot ys ((rowsB b).flatMap namesR) → H' t = some (.tup (ys.map V.str)) → Q (.ref t) H'
section
variable {P : Program} {w : World} {K : PySem.W.Frag} {mg : Str → Option Value} {base : Heap}
theorem scLNames : FnScope ["_law_block_here", "_law_found", "_law_row"] ["_law_block_here"] (defScope sLNames) := ⟨rfl, rfl, rfl, by decide +kernel, rfl, by decide +kernel, by decide +kernel⟩
theorem ok_lnames {f : Addr} {fd : FuncData} (F : FnP K "_law_names" sLNames f fd) (T : Bi mg) (C__law_rows : Cal P w K mg base "_law_rows" 5 ["_law_block_here"] (spRowsOf K 4)) : FnOk P w K mg base CX0 6 f fd ["_law_block_here"] (spLNamesW K) := by
  refine F.ok scLNames (fun vs H Q E h => ?_) (fun cdv A outer s H vs Q E hr h => ?_)
  · obtain ⟨v, b, rfl, _⟩ := h
    rfl
  · obtain ⟨v, b, rfl, tv, okb, l30, k⟩ := h
    have hr__law_rows := hr
    have hdep := ok_depB okb (by decide)
    have hn4 := ok_names_B okb
    have hlen := fm_bound (rowsB b) hn4
    refine ⟨_, PSs.nox (pss_cons (ps_set (i := 1) scLNames.nd rfl (Or.inl rfl) (pe_lst pa_nil))
    (pss_cons (ps_for PassesOwn.never rfl (pi_list (pcal C__law_rows hr__law_rows rfl (pa_cons (pv 0) pa_nil))) (pg_name (i := 2) scLNames.nd rfl (Or.inl rfl)) (pss_one (ps_if (pt_cmpR op_eq (pe_ix ix_tup (pv 2) pe_int (fun _ _ => rfl)) pe_str (nomark _)) (pss_one (ps_expr (pe_bm PySem.F.plainAttrs_list PySem.F.slot_list_extend PySem.F.type_list_extend mt_extend (pv 1) (pa_cons (pe_op op_cat (pe_lst (pa_cons (pe_ix ix_tup (pv 2) pe_int (fun _ _ => rfl)) pa_nil)) (pe_callTy call_list_of (by rfl) T.b_list (by decide +kernel) (pa_cons (pe_ix ix_tup (pv 2) pe_int (fun _ _ => rfl)) pa_nil))) pa_nil)))) (pss_one (ps_if (pt_cmpR op_eq (pe_ix ix_tup (pv 2) pe_int (fun _ _ => rfl)) pe_str (nomark _)) (pss_one (ps_expr (pe_bm PySem.F.plainAttrs_list PySem.F.slot_list_extend PySem.F.type_list_extend mt_extend (pv 1) (pa_cons (pe_lst (pa_cons (pe_ix ix_tup (pv 2) pe_int (fun _ _ => rfl)) (pa_cons (pe_ix ix_tup (pv 2) pe_int (fun _ _ => rfl)) pa_nil))) pa_nil)))) (pss_one (ps_if (pt_cmpR op_in_seq (pe_ix ix_tup (pv 2) pe_int (fun _ _ => rfl)) (pe_tup (pa_cons pe_str (pa_cons pe_str (pa_cons pe_str pa_nil)))) (by with_unfolding_all rfl)) (pss_one (ps_expr (pe_bm PySem.F.plainAttrs_list PySem.F.slot_list_append PySem.F.type_list_append mt_append (pv 1) (pa_cons (pe_ix ix_tup (pv 2) pe_int (fun _ _ => rfl)) pa_nil)))) pss_nil)))))))
    (pss_one (ps_ret (pe_callTy call_tuple_of (by rfl) T.b_tuple (by decide +kernel) (pa_cons (pe_callB (call_sortTx rfl) (by rfl) T.b_sorted (by decide +kernel) (pa_cons (pe_callTy (call_setTx rfl) (by rfl) T.b_set (by decide +kernel) (pa_cons (pv 1) pa_nil)) pa_nil)) pa_nil)))))), ?_⟩
    refine ⟨by decide, fun l nl => ?_⟩
    have sl := same_new (o := .lst []) nl
    refine ⟨_, rfl, v, b, rfl, tv.pt sl.pt, by omega, by omega, fun l2 us H1 s1 n1 hl2 hu => ⟨l2, rfl, ⟨us, SqL.of hl2⟩, ?_⟩⟩
    have hul := hu.len
    rw [List.length_map] at hul
    have sm1 := sl.trans s1
    have nll : l ≠ l2 := ne_of_none upd_same n1
    refine for_list (xs := us) (fun i σ' H' => ∃ y, σ' = [some v, some (.ref l), y] ∧ Same H H' ∧ H' l = some (.lst ((((rowsB b).take i).flatMap namesR).map V.str)) ∧ H' l2 = some (.lst us) ∧ Pt H1 H') ⟨_, rfl, sm1, s1 _ _ upd_same, hl2, Pt.refl _⟩ ?_ ?_ ?_
    · rintro i σ' H' _ ⟨y, rfl, sm, hl, h2, pt⟩
      exact SqL.of h2
    · rintro i x σ' H' hx ⟨y, rfl, sm, hl, h2, pt⟩
      obtain ⟨r, hr0, tr⟩ : ∃ r, (rowsB b)[i]? = some r ∧ RV K H' x r := by
        have hil : i < us.length := (List.getElem?_eq_some_iff.mp hx).1
        have hil' : i < (rowsB b).length := by omega
        obtain ⟨u, hu1, hu2⟩ := Tvs.get (i := i) (d := dR (rowsB b)[i]) (hu.pt pt) (by rw [List.getElem?_map, List.getElem?_eq_getElem hil']; rfl)
        rw [hx] at hu1
        cases hu1
        exact ⟨_, List.getElem?_eq_getElem hil', hu2⟩
      have hle := fm_le1 (f := namesR) hr0
      rw [List.length_append] at hle
      obtain ⟨ra, tl, rfl, hrS, hrt⟩ := tr.rowI
      have go : ∀ (G2 : Hp), Same H' G2 → ∃ y, [some v, some (V.ref l), some (V.ref ra)] = [some v, some (.ref l), y] ∧ Same H (upd G2 l (.lst ((((rowsB b).take i).flatMap namesR).map V.str ++ (namesR r).map V.str))) ∧ (upd G2 l (.lst ((((rowsB b).take i).flatMap namesR).map V.str ++ (namesR r).map V.str))) l = some (.lst ((((rowsB b).take (i + 1)).flatMap namesR).map V.str)) ∧ (upd G2 l (.lst ((((rowsB b).take i).flatMap namesR).map V.str ++ (namesR r).map V.str))) l2 = some (.lst us) ∧ Pt H1 (upd G2 l (.lst ((((rowsB b).take i).flatMap namesR).map V.str ++ (namesR r).map V.str))) := fun G2 s2 => by
        refine ⟨_, rfl, (sm.trans s2).put nl, ?_, ?_, (pt.trans s2.pt).trans (Pt.lst (s2 _ _ hl))⟩
        · rw [upd_same, fm_take hr0, List.map_append]
        · rw [upd_ne nll.symm]
          exact s2 _ _ h2
      have hsz : ((((rowsB b).take i).flatMap namesR).map V.str).length + ((namesR r).map V.str).length ≤ sizeLine := by
        rw [List.length_map, List.length_map]
        exact Nat.le_trans (show _ ≤ 1000000 by omega) (by decide)
      have hsz1 : ((((rowsB b).take i).flatMap namesR).map V.str).length < sizeLine := by
        rw [List.length_map]
        exact Nat.lt_of_le_of_lt (show _ ≤ 1000000 by omega) (by decide)
      refine ⟨_, rfl, _, _, _, _, rfl, rfl, hrS, at0, rfl, _, rfl, ?_⟩
      cases r with
      | note x o ps =>
        obtain ⟨v1, v2, v3, rfl, t1, t2, t3⟩ := hrt.three
        cases t1.strI
        cases t2.strI
        obtain ⟨a3, xs3, rfl, hS3, ht3⟩ := t3.tupI
        have e3 := Tvs.strs ht3
        subst e3
        refine ifD rfl ⟨_, rfl, .inl ⟨rfl, _, SqL.of hl⟩, _, rfl, _, _, _, _, rfl, rfl, hrS, rfl, by show 1 ≤ sizeLine; decide, fun a na => ?_⟩
        have sa := same_new (o := .lst [V.str x]) na
        refine ⟨_, rfl, _, _, _, _, rfl, rfl, sa.pt.sq hrS, rfl, a3, _, rfl, .inr (sa.pt.sq hS3), fun q nq => ?_⟩
        have sq := same_new (o := .lst (ps.map V.str)) nq
        have hpl : ps.length ≤ 3 := by
          have h4 := hn4 _ (List.mem_of_getElem? hr0)
          have : (ps.length + 1) ≤ 4 := h4
          omega
        refine ⟨a, q, _, _, rfl, rfl, sq _ _ upd_same, upd_same, by rw [List.length_map]; exact Nat.le_trans (show [V.str x].length + ps.length ≤ 4 by show 1 + ps.length ≤ 4; omega) (by decide), fun z nz => ?_⟩
        have sz := same_new (o := .lst ([V.str x] ++ ps.map V.str)) nz
        exact ⟨l, z, _, _, rfl, rfl, ((sa.trans sq).trans sz) _ _ hl, upd_same, hsz, go _ ((sa.trans sq).trans sz)⟩
      | copy x y =>
        obtain ⟨v1, v2, rfl, t1, t2⟩ := hrt.two
        cases t1.strI
        cases t2.strI
        refine ifDF (neS (a := "copy") (b := "note") (by decide +kernel)) ⟨_, rfl, _, _, _, _, rfl, rfl, hrS, at0, rfl, _, rfl, ifD rfl ⟨_, rfl, .inl ⟨rfl, _, SqL.of hl⟩, _, rfl, _, _, _, _, rfl, rfl, hrS, rfl, _, rfl, _, _, _, _, rfl, rfl, hrS, rfl, by show 2 ≤ sizeLine; decide, fun a na => ?_⟩⟩
        have sa := same_new (o := .lst [V.str x, V.str y]) na
        exact ⟨l, a, _, _, rfl, rfl, sa _ _ hl, upd_same, hsz, go _ sa⟩
      | give x i1 =>
        obtain ⟨v1, v2, rfl, t1, t2⟩ := hrt.two
        cases t1.strI
        refine ifDF (neS (a := "give") (b := "note") (by decide +kernel)) ⟨_, rfl, _, _, _, _, rfl, rfl, hrS, at0, rfl, _, rfl, ifDF (neS (a := "give") (b := "copy") (by decide +kernel)) ⟨_, rfl, _, _, _, _, rfl, rfl, hrS, at0, by decide, fun t nt => ?_⟩⟩
        have st := same_new (o := .tup [V.str "give", V.str "ask", V.str "print"]) nt
        refine ⟨_, _, rfl, .inr (.inl (.inl upd_same)), rfl, rfl, _, rfl, ?_⟩
        refine ifB (show inV (V.str (Str.ofString "give")) [V.str (Str.ofString "give"), V.str (Str.ofString "ask"), V.str (Str.ofString "print")] = true by decide +kernel) ⟨_, rfl, .inl ⟨rfl, _, SqL.of (st _ _ hl)⟩, _, rfl, _, _, _, _, rfl, rfl, st.pt.sq hrS, rfl, l, _, _, rfl, rfl, st _ _ hl, hsz1, go _ st⟩
      | ask x =>
        obtain ⟨v1, rfl, t1⟩ := hrt.one
        cases t1.strI
        refine ifDF (neS (a := "ask") (b := "note") (by decide +kernel)) ⟨_, rfl, _, _, _, _, rfl, rfl, hrS, at0, rfl, _, rfl, ifDF (neS (a := "ask") (b := "copy") (by decide +kernel)) ⟨_, rfl, _, _, _, _, rfl, rfl, hrS, at0, by decide, fun t nt => ?_⟩⟩
        have st := same_new (o := .tup [V.str "give", V.str "ask", V.str "print"]) nt
        refine ⟨_, _, rfl, .inr (.inl (.inl upd_same)), rfl, rfl, _, rfl, ?_⟩
        refine ifB (show inV (V.str (Str.ofString "ask")) [V.str (Str.ofString "give"), V.str (Str.ofString "ask"), V.str (Str.ofString "print")] = true by decide +kernel) ⟨_, rfl, .inl ⟨rfl, _, SqL.of (st _ _ hl)⟩, _, rfl, _, _, _, _, rfl, rfl, st.pt.sq hrS, rfl, l, _, _, rfl, rfl, st _ _ hl, hsz1, go _ st⟩
      | prt x =>
        obtain ⟨v1, rfl, t1⟩ := hrt.one
        cases t1.strI
        refine ifDF (neS (a := "print") (b := "note") (by decide +kernel)) ⟨_, rfl, _, _, _, _, rfl, rfl, hrS, at0, rfl, _, rfl, ifDF (neS (a := "print") (b := "copy") (by decide +kernel)) ⟨_, rfl, _, _, _, _, rfl, rfl, hrS, at0, by decide, fun t nt => ?_⟩⟩
        have st := same_new (o := .tup [V.str "give", V.str "ask", V.str "print"]) nt
        refine ⟨_, _, rfl, .inr (.inl (.inl upd_same)), rfl, rfl, _, rfl, ?_⟩
        refine ifB (show inV (V.str (Str.ofString "print")) [V.str (Str.ofString "give"), V.str (Str.ofString "ask"), V.str (Str.ofString "print")] = true by decide +kernel) ⟨_, rfl, .inl ⟨rfl, _, SqL.of (st _ _ hl)⟩, _, rfl, _, _, _, _, rfl, rfl, st.pt.sq hrS, rfl, l, _, _, rfl, rfl, st _ _ hl, hsz1, go _ st⟩
      | either b1 b2 =>
        refine ifDF (neS (a := "either") (b := "note") (by decide +kernel)) ⟨_, rfl, _, _, _, _, rfl, rfl, hrS, at0, rfl, _, rfl, ifDF (neS (a := "either") (b := "copy") (by decide +kernel)) ⟨_, rfl, _, _, _, _, rfl, rfl, hrS, at0, by decide, fun t nt => ?_⟩⟩
        have st := same_new (o := .tup [V.str "give", V.str "ask", V.str "print"]) nt
        refine ⟨_, _, rfl, .inr (.inl (.inl upd_same)), rfl, rfl, _, rfl, ?_⟩
        refine ifBF (show inV (V.str (Str.ofString "either")) [V.str (Str.ofString "give"), V.str (Str.ofString "ask"), V.str (Str.ofString "print")] = false by decide +kernel) ⟨_, rfl, sm.trans st, ?_, st _ _ h2, pt.trans st.pt⟩
        rw [fm_take hr0]
        show _ = some (HO.lst ((_ ++ []).map V.str))
        rw [List.append_nil]
        exact st _ _ hl
      | again b1 =>
        refine ifDF (neS (a := "again") (b := "note") (by decide +kernel)) ⟨_, rfl, _, _, _, _, rfl, rfl, hrS, at0, rfl, _, rfl, ifDF (neS (a := "again") (b := "copy") (by decide +kernel)) ⟨_, rfl, _, _, _, _, rfl, rfl, hrS, at0, by decide, fun t nt => ?_⟩⟩
        have st := same_new (o := .tup [V.str "give", V.str "ask", V.str "print"]) nt
        refine ⟨_, _, rfl, .inr (.inl (.inl upd_same)), rfl, rfl, _, rfl, ?_⟩
        refine ifBF (show inV (V.str (Str.ofString "again")) [V.str (Str.ofString "give"), V.str (Str.ofString "ask"), V.str (Str.ofString "print")] = false by decide +kernel) ⟨_, rfl, sm.trans st, ?_, st _ _ h2, pt.trans st.pt⟩
        rw [fm_take hr0]
        show _ = some (HO.lst ((_ ++ []).map V.str))
        rw [List.append_nil]
        exact st _ _ hl
    · rintro σ' H' ⟨y, rfl, sm, hl, h2, pt⟩
      have e : (rowsB b).take us.length = rowsB b := by rw [hul, List.take_length]
      rw [e] at hl
      have hin := (insAll_ok ((rowsB b).flatMap namesR)).2.2
      refine ⟨_, rfl, l, _, rfl, SqL.of hl, by show _ < 4096; omega, fun q nq => ?_⟩
      refine ⟨q, _, rfl, upd_same, by omega, fun ys z pm so nz => ⟨z, _, rfl, .inl ⟨SqL.of upd_same, fun t nt => ?_⟩⟩⟩
      have s3 := (same_new (o := SetTO w q (insAll ((rowsB b).flatMap namesR))) nq).trans (same_new (o := .lst (ys.map V.str)) nz)
      exact k t ys _ ((sm.trans s3).trans (same_new nt)) ((sm.trans s3).free nt) (lot_of pm so) upd_same
end
end K05
set_option Elab.async false
set_option linter.all false
set_option maxRecDepth 100000
set_option maxHeartbeats 4000000
namespace K05
open PySem PySem.Spec PyProof.Rows L2 ZX PM ZR
abbrev sLWrong : Stmt := top 53
def spLWrong (K : PySem.W.Frag) (C : Addr) : Sp := fun vs H Q _ => ∃ (v : V) (x : Dt) (o : Option Int), vs = [v] ∧ Td K C H v x ∧ szD x ≤ 1000000 ∧ BadIs x o ∧ ∀ H', Same H H' → Q (optV o) H'
theorem walk_LS (ds : List Dt) (m : Nat) : walkL 4 1 ds (.ok m) = walkS (ds.map fun r => (1, r)) (.ok m) := by
  rw [walkS, List.foldl_map]
  rfl
section
variable {P : Program} {w : World} {K : PySem.W.Frag} {mg : Str → Option Value} {base : Heap} {C : Addr}
theorem scLWrong : FnScope ["_law_block_here", "_law_wrong_here"] ["_law_block_here"] (defScope sLWrong) := ⟨rfl, rfl, rfl, by decide +kernel, rfl, by decide +kernel, by decide +kernel⟩
theorem ok_lwrong {f : Addr} {fd : FuncData} (O : OthC K C) (F : FnP K "_law_wrong" sLWrong f fd) (T : Bi mg) (C__law_first_wrong : Cal P w K mg base "_law_first_wrong" 6 ["_law_block_here", "_law_deep_here", "_law_count"] (spLFirst K C 4)) (C__law_size : Cal P w K mg base "_law_size" 5 ["_law_block_here"] (spLSize K 4)) (C__law_names : Cal P w K mg base "_law_names" 6 ["_law_block_here"] (spLNamesW K)) : FnOk P w K mg base CX0 7 f fd ["_law_block_here"] (spLWrong K C) := by
  refine F.ok scLWrong (fun vs H Q E h => ?_) (fun cdv A outer s H vs Q E hr h => ?_)
  · obtain ⟨v, r, o, rfl, _⟩ := h
    rfl
  · obtain ⟨v, x, o, rfl, tv, hsz, hB, k⟩ := h
    have hr__law_first_wrong := hr
    have hr__law_names := hr
    have hr__law_size := hr.mono (show 5 ≤ 6 by decide)
    refine ⟨_, PSs.nox (pss_cons (ps_if (pt_not (pt_val (pe_callB call_isi (by rfl) T.b_isinstance (by decide +kernel) (pa_cons (pv 0) (pa_cons (pe_bltn (v := .ty "tuple") (by rfl) T.b_tuple (by decide +kernel) rfl) pa_nil))))) (pss_one (ps_ret (pe_un un_neg pe_int))) pss_nil)
    (pss_cons (ps_set (i := 1) scLWrong.nd rfl (Or.inl rfl) (pcal C__law_first_wrong hr__law_first_wrong rfl (pa_cons (pv 0) (pa_cons pe_int (pa_cons (pe_lst (pa_cons pe_int pa_nil)) pa_nil)))))
    (pss_cons (ps_if (pt_cmpR op_notN (pv 1) pe_non (nomark _)) (pss_one (ps_ret (pv 1))) pss_nil)
    (pss_cons (ps_if (PW.pt (pw_or (pt_cmpR op_gt (pe_callB call_len_seq (by rfl) T.b_len (by decide +kernel) (pa_cons (pv 0) pa_nil)) pe_int (nomark _)) (pw_or (pt_cmpR op_gt (pcal C__law_size hr__law_size rfl (pa_cons (pv 0) pa_nil)) pe_int (nomark _)) (pw_or1 (pt_cmpR op_gt (pe_callB call_len_seq (by rfl) T.b_len (by decide +kernel) (pa_cons (pcal C__law_names hr__law_names rfl (pa_cons (pv 0) pa_nil)) pa_nil)) pe_int (nomark _)))))) (pss_one (ps_ret (pe_un un_neg pe_int))) pss_nil)
    (pss_one (ps_ret pe_non)))))), ?_⟩
    rcases tv.tupOr O with ⟨a, xs, ds, rfl, rfl, hS, ht⟩ | ⟨nt, t, hty, e⟩
    rotate_left
    · cases hB with
      | no _ => exact ⟨_, rfl, _, _, _, _, false, rfl, .ty "tuple", hty, e, false, rfl, _, rfl, k _ fun _ _ h => h⟩
      | at_ h => exact absurd rfl (nt _)
      | big _ _ _ => exact absurd rfl (nt _)
      | good _ _ => exact absurd rfl (nt _)
    rw [szD] at hsz
    refine ⟨_, rfl, _, _, _, _, true, rfl, .ty "tuple", tyT hS, rfl, true, rfl, ?_⟩
    refine ⟨_, rfl, by show 1 ≤ sizeLine; decide, fun c nc => ?_⟩
    have s0 := same_new (o := .lst [V.int 0]) nc
    refine ⟨1, _, ds, c, 0, rfl, by decide, rfl, tv.kd s0.kd, upd_same, fun H1 m' kp hc1 hq => ?_⟩
    have s1 : Same H H1 := fun z o e => kp _ _ (ne_of_none e nc) (s0 _ _ e)
    rw [walk_LS]
    cases hB with
    | no h => exact absurd rfl (h _)
    | at_ h =>
      rw [h]
      exact ⟨_, rfl, rfl, true, rfl, _, rfl, k H1 s1⟩
    | @big b m h ok g =>
      rw [h]
      have hrl := rows_szB b
      have hdep := ok_depB ok (by decide)
      have hbl := bD_len b
      have hxl := ht.len
      have tb : BV K H (.ref a) b := .tup hS (Tds.bd _ _ ht)
      refine ⟨_, rfl, rfl, false, rfl, _, rfl, a, _, rfl, .inr (s1.pt.sq hS), _, _, rfl, rfl, _, rfl, ?_⟩
      by_cases c1 : b.length ≤ 12
      · refine ifDF (by omega) ⟨_, rfl, _, b, rfl, tb.pt s1.pt, by omega, by omega, fun H2 s2 => ⟨_, _, rfl, rfl, _, rfl, ?_⟩⟩
        by_cases c2 : (rowsB b).length ≤ 30
        · refine ifDF (by omega) ?_
          have s12 := s1.trans s2
          refine ⟨_, rfl, _, b, rfl, tb.pt s12.pt, ok, c2, fun t ys H3 s3 nt ly ht3 => ?_⟩
          have c3 : 8 < ys.length := by
            by_cases h8 : ys.length ≤ 8
            · exact absurd ⟨ok, c1, c2, fun zs lz => by rw [IsLot.uniq lz ly (fun _ => Iff.rfl)]; exact h8⟩ g
            · omega
          refine ⟨t, _, rfl, .inr (.inl (.inl ht3)), _, _, rfl, rfl, _, rfl, ?_⟩
          rw [decide_eq_true (by rw [List.length_map]; omega)]
          exact ⟨_, rfl, k H3 (s12.trans s3)⟩
        · exact ifD (by omega) ⟨_, rfl, k H2 (s1.trans s2)⟩
      · exact ifD (by omega) ⟨_, rfl, k H1 s1⟩
    | @good b m h G =>
      rw [h]
      have hbl := bD_len b
      have hxl := ht.len
      have l30 := G.l30
      have hdep := ok_depB G.ok (by decide)
      have tb : BV K H (.ref a) b := .tup hS (Tds.bd _ _ ht)
      refine ⟨_, rfl, rfl, false, rfl, _, rfl, a, _, rfl, .inr (s1.pt.sq hS), _, _, rfl, rfl, _, rfl, ifDF (by have := G.l12; omega) ?_⟩
      refine ⟨_, rfl, _, b, rfl, tb.pt s1.pt, by omega, by omega, fun H2 s2 => ⟨_, _, rfl, rfl, _, rfl, ifDF (by omega) ?_⟩⟩
      have s12 := s1.trans s2
      refine ⟨_, rfl, _, b, rfl, tb.pt s12.pt, G.ok, l30, fun t ys H3 s3 nt ly ht3 => ?_⟩
      have := G.n8 ys ly
      refine ⟨t, _, rfl, .inr (.inl (.inl ht3)), _, _, rfl, rfl, _, rfl, ?_⟩
      rw [decide_eq_false (by rw [List.length_map]; omega)]
      exact k H3 (s12.trans s3)
end
end K05
set_option Elab.async false
set_option linter.all false
set_option maxRecDepth 100000
set_option maxHeartbeats 4000000
/-! How deep things are; into which of them rows may be put. -/
namespace PM
open PySem PySem.Spec PyProof.Rows L2 ZX ZR
mutual
def dpD : Dt → Nat
  | .tup ds => dpL ds + 1
  | .str _ => 0
  | .int _ => 0
  | .bl _ => 0
  | .oth => 0
def dpL : List Dt → Nat
  | [] => 0
  | d :: ds => max (dpD d) (dpL ds)
end
def flatD : Dt → Bool
  | .str _ => true
  | .int _ => true
  | .bl _ => true
  | _ => false
mutual
/-- a thing that may stand in a block into which rows are put -/
def rkD : Dt → Bool
  | .tup l => rkT l
  | .str _ => true
  | .int _ => true
  | .bl _ => true
  | .oth => true
def rkT : List Dt → Bool
  | [] => true
  | h :: l => rkU h l
def rkU : Dt → List Dt → Bool
  | _, [] => true
  | h, i :: _ => flatD h && rkI i
def rkI : Dt → Bool
  | .tup l => rkL l
  | .str _ => true
  | .int _ => true
  | .bl _ => true
  | .oth => true
def rkL : List Dt → Bool
  | [] => true
  | d :: ds => rkD d && rkL ds
end
theorem rk_nest {x : Dt} : rkD (.tup [x]) = true := by rw [rkD, rkT, rkU]
end PM
set_option Elab.async false
set_option linter.all false
set_option maxRecDepth 100000
set_option maxHeartbeats 4000000
namespace K05
open PySem PySem.Spec PyProof.Rows L2 ZX PM ZR
/-- a thing of a kind, not large -/
def DeepT (K : PySem.W.Frag) (C : Addr) (H : Hp) (n : Nat) (v : V) : Prop := ∃ x, Td K C H v x ∧ szD x ≤ n ∧ rkD x = true
theorem DeepT.kd {K : PySem.W.Frag} {C : Addr} {H H' : Hp} {n : Nat} {v : V} (k : Kd H H') (h : DeepT K C H n v) : DeepT K C H' n v := by
  obtain ⟨x, tx, hs⟩ := h
  exact ⟨x, tx.kd k, hs⟩
theorem DeepT.mono {K : PySem.W.Frag} {C : Addr} {H : Hp} {n m : Nat} {v : V} (e : n ≤ m) (h : DeepT K C H n v) : DeepT K C H m v := by
  obtain ⟨x, tx, hs⟩ := h
  exact ⟨x, tx, Nat.le_trans hs.1 e, hs.2⟩
theorem DeepT.one {K : PySem.W.Frag} {C b : Addr} {H : Hp} {n : Nat} {v : V} (h : DeepT K C H n v) (hb : H b = some (.tup [v])) : DeepT K C H (n + 1) (.ref b) := by
  obtain ⟨x, tx, hs⟩ := h
  have := hs.1
  refine ⟨.tup [x], .tup (.inl (.inl hb)) (.cons tx .nil), ?_, rk_nest⟩
  rw [szD, szL, szL]
  omega
theorem hand_kd {H H' : Hp} {p c : Addr} (h : HandAt H p c) (h' : HandAt H' p c) (k : Kp p H H') : Kd H H' := by
  obtain ⟨_, _, _, _, _, h⟩ := h
  obtain ⟨_, _, _, _, _, h'⟩ := h'
  exact kd_kp h.hp h'.hp k
def DeepMT (K : PySem.W.Frag) (C p c : Addr) (H0 : Hp) (n : Nat) (σ : L2.St) (H : Hp) : Prop := ∃ (v : V) (t : Option V), σ = [some (.ref p), some v, t] ∧ HandAt H p c ∧ Kp p H0 H ∧ DeepT K C H n v
theorem DeepMT.mono {K : PySem.W.Frag} {C p c : Addr} {H0 : Hp} {n m : Nat} {σ : L2.St} {H : Hp} (h : DeepMT K C p c H0 n σ H) (e : n ≤ m) : DeepMT K C p c H0 m σ H := by
  obtain ⟨v, t, e1, hh, k, d⟩ := h
  exact ⟨v, t, e1, hh, k, d.mono e⟩
def spDeepT (K : PySem.W.Frag) (C : Addr) : Sp := fun vs H Q _ => ∃ p c : Addr, vs = [.ref p] ∧ HandAt H p c ∧ ∀ (v : V) (H' : Hp), HandAt H' p c → Kp p H H' → DeepT K C H' 22 v → Q v H'
section
variable {P : Program} {w : World} {K : PySem.W.Frag} {mg : Str → Option Value} {base : Heap} {C : Addr}
theorem ok_deepT {f : Addr} {fd : FuncData} (F : FnP K "_law_deep" sDeep f fd) (T : Bi mg) (C_draw : Cal P w K mg base "_law_draw" 1 ["_law_hand_here", "_law_many"] spDraw) : FnOk P w K mg base CX0 2 f fd ["_law_hand_here"] (spDeepT K C) := by
  refine F.ok scDeep (fun vs H Q E h => ?_) (fun cdv A outer s H vs Q E hr h => ?_)
  · obtain ⟨p, c, rfl, _⟩ := h
    rfl
  · obtain ⟨p, c, rfl, hh, k⟩ := h
    refine ⟨_, PSs.nox (pss_cut (ps_set (i := 1) scDeep.nd rfl (Or.inl rfl) (pe_ix ix_list (pe_lst (pa_cons pe_non (pa_cons (pe_tup pa_nil) (pa_cons pe_str pa_nil)))) (pcal C_draw hr rfl (pa_cons (pv 0) (pa_cons pe_int pa_nil))) (fun _ _ => rfl)))
    (pss_cut (ps_for PassesOwn.never rfl (pi_range1 rfl T.b_range (pa_cons (pe_op op_add pe_int (pcal C_draw hr rfl (pa_cons (pv 0) (pa_cons pe_int pa_nil)))) pa_nil)) (pg_name (i := 2) scDeep.nd rfl (Or.inl rfl)) (pss_one (ps_set (i := 1) scDeep.nd rfl (Or.inl rfl) (pe_ix ix_list (pe_lst (pa_cons (pe_lst (pa_cons (pv 1) pa_nil)) (pa_cons (pe_tup (pa_cons (pv 1) pa_nil)) (pa_cons (pe_disp (pps_cons pe_int (pv 1) pps_nil) (by rfl) (by rfl) (fun z => by cases z) (by decide)) pa_nil)))) (pcal C_draw hr rfl (pa_cons (pv 0) (pa_cons pe_int pa_nil))) (fun _ _ => rfl)))))
    (pss_one (ps_ret (pv 1))))), ?_⟩
    refine ⟨fun σ' H' => DeepMT K C p c H 1 σ' H', ?_, ?_⟩
    · -- found = [None, (), 'x'][draw(3)]
      refine ⟨by decide, fun t nt => ⟨by show 3 ≤ sizeLine; decide, fun l nl => ?_⟩⟩
      have k1 : Kp p H (upd (upd H t (.tup [])) l (.lst [.non, .ref t, .str "x"])) := ((Kp.refl p H).new nt).new nl
      have hh1 := (hh.new (o := .tup []) nt).new (o := .lst [.non, .ref t, .str "x"]) nl
      have ntl : t ≠ l := ne_of_none upd_same nl
      have nlp : l ≠ p := by
        obtain ⟨o, e⟩ := (hh.new (o := .tup []) nt).some
        exact (ne_of_none e nl).symm
      have ntp : t ≠ p := by
        obtain ⟨o, e⟩ := hh.some
        exact (ne_of_none e nt).symm
      refine ⟨_, rfl, p, c, 3, rfl, hh1, by decide, by decide, fun d H' d0 d3 hh' ch => ?_⟩
      have ht : H' t = some (.tup []) := by
        rw [ch t ntp, upd_ne ntl]
        exact upd_same
      obtain ⟨x, hx, hd⟩ := three d0 d3 (DeepT K C H' 1) (a := .non) (b := .ref t) (c := .str "x") ⟨_, .non, Nat.le_refl _, by rw [rkD]⟩ ⟨_, .tup (.inl (.inl ht)) .nil, Nat.le_refl _, by rw [rkD, rkT]⟩ ⟨_, .str _ (by decide), Nat.le_refl _, by rw [rkD]⟩
      refine ⟨l, _, _, x, rfl, rfl, SqL.of (by rw [ch l nlp]; exact upd_same), hx, ?_⟩
      exact ⟨x, _, rfl, hh', k1.trans ch.kp, hd⟩
    · rintro σ' H' ⟨v, t, rfl, hh', k1, hd⟩
      refine ⟨fun σ' H' => DeepMT K C p c H 22 σ' H', ?_, ?_⟩
      · refine ⟨_, rfl, p, c, 8, rfl, hh', by decide, by decide, fun d H2 d0 d8 hh2 ch => ?_⟩
        refine ⟨_, _, rfl, rfl, _, rfl, by omega, by omega, ?_⟩
        refine for_range (fun i => DeepMT K C p c H (i + 1)) ⟨v, t, rfl, hh2, k1.trans ch.kp, hd.kd (hand_kd hh' hh2 ch.kp)⟩ ?_ (fun _ _ h => h.mono (by omega))
        rintro i σ3 H3 hi ⟨v, t, rfl, hh3, k3, hd3⟩
        -- found = [[found], (found,), {0: found}][draw(3)]
        refine ⟨_, rfl, by show 1 ≤ sizeLine; decide, fun a na => ⟨_, rfl, by show 1 ≤ sizeLine; decide, fun b nb => ?_⟩⟩
        intro e ne
        refine ⟨_, rfl, upd_same, [(.inl 0, v)], rfl, by show 1 ≤ 15; decide, by show 3 ≤ sizeLine; decide, fun l nl => ?_⟩
        have eu : (upd (upd (upd (upd H3 a (.lst [v])) b (.tup [v])) e (.dK [])) e (.dK (mergeK [] [(.inl 0, v)]))) = upd (upd (upd H3 a (.lst [v])) b (.tup [v])) e (.dK [(.inl 0, v)]) := upd_upd
        rw [eu] at nl ⊢
        have sa := same_new (o := .lst [v]) na
        have sb := same_new (o := .tup [v]) nb
        have se := same_new (o := .dK [(.inl 0, v)]) ne
        have sl := same_new (o := .lst [.ref a, .ref b, .ref e]) nl
        have s3 : Same H3 _ := ((sa.trans sb).trans se).trans sl
        have hh4 := hh3.kp s3
        have pn : ∀ {G : Hp} {x : Addr}, Same H3 G → G x = none → x ≠ p := fun sG n => by
          obtain ⟨o, eo⟩ := hh3.some
          exact (ne_of_none (sG _ _ eo) n).symm
        have hd4 := hd3.kd s3.kd
        refine ⟨_, rfl, p, c, 3, rfl, hh4, by decide, by decide, fun d H5 d0 d3 hh5 ch => ?_⟩
        have hd5 : DeepT K C H5 (i + 1) v := hd4.kd (hand_kd hh4 hh5 ch.kp)
        have ha : H5 a = some (.lst [v]) := by
          rw [ch a (pn (fun _ _ z => z) na)]
          exact sl _ _ (se _ _ (sb _ _ upd_same))
        have hb : H5 b = some (.tup [v]) := by
          rw [ch b (pn sa nb)]
          exact sl _ _ (se _ _ upd_same)
        have he : H5 e = some (.dK [(.inl 0, v)]) := by
          rw [ch e (pn (sa.trans sb) ne)]
          exact sl _ _ upd_same
        have hl5 : H5 l = some (.lst [.ref a, .ref b, .ref e]) := by
          rw [ch l (pn ((sa.trans sb).trans se) nl)]
          exact upd_same
        obtain ⟨x, hx, hdx⟩ := three d0 d3 (DeepT K C H5 (i + 1 + 1)) (a := .ref a) (b := .ref b) (c := .ref e) ⟨_, .lst ha, by show 1 ≤ _; omega, by rw [rkD]⟩ (hd5.one hb) ⟨_, .dic he, by show 1 ≤ _; omega, by rw [rkD]⟩
        refine ⟨l, _, _, x, rfl, rfl, SqL.of hl5, hx, ?_⟩
        refine ⟨x, _, rfl, hh5, k3.trans (Kp.trans (fun z o _ eo => s3 z o eo) ch.kp), hdx⟩
      · rintro σ' H' ⟨v, t, rfl, hh', k1, hd⟩
        exact ⟨_, rfl, k v H' hh' k1 hd⟩
end

end K05
set_option Elab.async false
set_option linter.all false
set_option maxRecDepth 100000
set_option maxHeartbeats 4000000
namespace PM
open PySem PySem.Spec PyProof.Rows L2 ZX ZR
section
variable {K : PySem.W.Frag} {C : Addr} {H : Hp}
theorem Tvs.dts : ∀ {vs : List V} {ps : List Str}, (∀ y ∈ ps, NameOk y) → Tvs K H vs (ps.map .str) → Tds K C H vs (ps.map .str)
  | _, [], _, .nil => .nil
  | _, x :: ps, hn, .cons h t => by
    cases h
    have := (hn x List.mem_cons_self).2.1
    exact .cons (.str x (by omega)) (Tvs.dts (fun y hy => hn y (List.mem_cons_of_mem _ hy)) t)
mutual
theorem Tv.dr : ∀ (r : Rw) (d : Nat) (v : V), okR d r → Tv K H v (dR r) → Td K C H v (rD r)
  | .note x o ps, d, v, ok, h => by
    obtain ⟨n1, n2, l3, n3⟩ := ok
    obtain ⟨a, xs, rfl, hS, t⟩ := h.tupI
    have l1 := n1.2.1
    have l2 := n2.2.1
    cases t with | cons h1 t => cases t with | cons h2 t => cases t with | cons h3 t => cases t with | cons h4 t =>
    cases t
    cases h1
    cases h2
    cases h3
    obtain ⟨b, ys, rfl, hS2, t2⟩ := h4.tupI
    exact .tup hS (.cons (.str _ (by decide)) (.cons (.str _ (by omega)) (.cons (.str _ (by omega)) (.cons (.tup hS2 (Tvs.dts n3 t2)) .nil))))
  | .copy x y, d, v, ok, h => by
    obtain ⟨n1, n2⟩ := ok
    obtain ⟨a, xs, rfl, hS, t⟩ := h.tupI
    have l1 := n1.2.1
    have l2 := n2.2.1
    cases t with | cons h1 t => cases t with | cons h2 t => cases t with | cons h3 t =>
    cases t
    cases h1
    cases h2
    cases h3
    exact .tup hS (.cons (.str _ (by decide)) (.cons (.str _ (by omega)) (.cons (.str _ (by omega)) .nil)))
  | .give x i, d, v, ok, h => by
    have n1 : NameOk x := ok
    obtain ⟨a, xs, rfl, hS, t⟩ := h.tupI
    have l1 := n1.2.1
    cases t with | cons h1 t => cases t with | cons h2 t => cases t with | cons h3 t =>
    cases t
    cases h1
    cases h2
    cases h3
    exact .tup hS (.cons (.str _ (by decide)) (.cons (.str _ (by omega)) (.cons (.int _) .nil)))
  | .ask x, d, v, ok, h => by
    have n1 : NameOk x := ok
    obtain ⟨a, xs, rfl, hS, t⟩ := h.tupI
    have l1 := n1.2.1
    cases t with | cons h1 t => cases t with | cons h2 t =>
    cases t
    cases h1
    cases h2
    exact .tup hS (.cons (.str _ (by decide)) (.cons (.str _ (by omega)) .nil))
  | .prt x, d, v, ok, h => by
    have n1 : NameOk x := ok
    obtain ⟨a, xs, rfl, hS, t⟩ := h.tupI
    have l1 := n1.2.1
    cases t with | cons h1 t => cases t with | cons h2 t =>
    cases t
    cases h1
    cases h2
    exact .tup hS (.cons (.str _ (by decide)) (.cons (.str _ (by omega)) .nil))
  | .either p q, d, v, ok, h => by
    obtain ⟨_, _, _, o1, o2⟩ := ok
    obtain ⟨a, xs, rfl, hS, t⟩ := h.tupI
    cases t with | cons h1 t => cases t with | cons h2 t => cases t with | cons h3 t =>
    cases t
    cases h1
    obtain ⟨b2, y2, rfl, hS2, t2⟩ := h2.tupI
    obtain ⟨b3, y3, rfl, hS3, t3⟩ := h3.tupI
    exact .tup hS (.cons (.str _ (by decide)) (.cons (.tup hS2 (Tvs.db p (d + 1) y2 o1 t2)) (.cons (.tup hS3 (Tvs.db q (d + 1) y3 o2 t3)) .nil)))
  | .again p, d, v, ok, h => by
    obtain ⟨_, _, o1⟩ := ok
    obtain ⟨a, xs, rfl, hS, t⟩ := h.tupI
    cases t with | cons h1 t => cases t with | cons h2 t =>
    cases t
    cases h1
    obtain ⟨b2, y2, rfl, hS2, t2⟩ := h2.tupI
    exact .tup hS (.cons (.str _ (by decide)) (.cons (.tup hS2 (Tvs.db p (d + 1) y2 o1 t2)) .nil))
theorem Tvs.db : ∀ (b : List Rw) (d : Nat) (vs : List V), okB d b → Tvs K H vs (dB b) → Tds K C H vs (bD b)
  | [], d, vs, _, h => by
    cases h
    exact .nil
  | r :: b, d, vs, ok, h => by
    cases h with | cons h t =>
    exact .cons (Tv.dr r d _ ok.1 h) (Tvs.db b d _ ok.2 t)
end
end
mutual
theorem sz_rowsR : ∀ (r : Rw) (d : Nat), okR d r → szD (rD r) ≤ 9 * (rowsR r).length
  | .either a b, d, ok => by
    obtain ⟨_, _, _, o1, o2⟩ := ok
    have h1 := sz_rowsB a (d + 1) o1
    have h2 := sz_rowsB b (d + 1) o2
    show szL [.str "either", .tup (bD a), .tup (bD b)] + 1 ≤ 9 * ((rowsB a ++ rowsB b).length + 1)
    rw [List.length_append, szL, szL, szL, szL, szD, szD, szD]
    omega
  | .again a, d, ok => by
    obtain ⟨_, _, o1⟩ := ok
    have h1 := sz_rowsB a (d + 1) o1
    show szL [.str "again", .tup (bD a)] + 1 ≤ 9 * ((rowsB a).length + 1)
    rw [szL, szL, szL, szD, szD]
    omega
  | .note x o ps, d, ok => by
    have l3 := ok.2.2.1
    have e : ∀ l : List Str, szL (l.map Dt.str) = l.length := fun l => by
      induction l with
      | nil => rfl
      | cons x l ih => rw [List.map_cons, szL, ih, szD, List.length_cons]; omega
    show szL [.str "note", .str x, .str o, .tup (ps.map .str)] + 1 ≤ 9 * 1
    rw [szL, szL, szL, szL, szL, szD, szD, szD, szD, e]
    omega
  | .copy x y, d, ok => by
    show szL [.str "copy", .str x, .str y] + 1 ≤ 9 * 1
    rw [szL, szL, szL, szL, szD, szD, szD]
    omega
  | .give x i, d, ok => by
    show szL [.str "give", .str x, .int i] + 1 ≤ 9 * 1
    rw [szL, szL, szL, szL, szD, szD, szD]
    omega
  | .ask x, d, ok => by
    show szL [.str "ask", .str x] + 1 ≤ 9 * 1
    rw [szL, szL, szL, szD, szD]
    omega
  | .prt x, d, ok => by
    show szL [.str "print", .str x] + 1 ≤ 9 * 1
    rw [szL, szL, szL, szD, szD]
    omega
theorem sz_rowsB : ∀ (b : List Rw) (d : Nat), okB d b → szL (bD b) ≤ 9 * (rowsB b).length
  | [], d, _ => Nat.zero_le _
  | r :: b, d, ok => by
    have h1 := sz_rowsR r d ok.1
    have h2 := sz_rowsB b d ok.2
    rw [rowsB, List.length_append, bD, szL]
    omega
end
end PM
set_option Elab.async false
set_option linter.all false
set_option maxRecDepth 100000
set_option maxHeartbeats 4000000
/-! Rules of my own: try with several except clauses, each with a name or without. -/
namespace ZR
open PySem PySem.Spec PyProof.Rows L2
/-- the ends of a clause's suite: slot i is its name's -/
def asE : Option Nat → Ends → Ends
  | none, D => D
  | some i, D => { nx := fun σ' H' => D.nx (σ'.set i none) H', rt := D.rt, bk := fun σ' H' => D.bk (σ'.set i none) H', ct := fun σ' H' => D.ct (σ'.set i none) H' }
def asS : Option Nat → Addr → L2.St → L2.St
  | none, _, σ => σ
  | some i, a, σ => σ.set i (some (.ref a))
abbrev HdW : Type := Value × Option Nat × (Addr → Value → Option Addr → TS)
/-- what the clauses wish of an exception of the body, one after the other -/
def wMix (K : PySem.W.Frag) (Wout : WX) (D : Ends) : List HdW → WX
  | [] => Wout
  | (c, o, ts) :: r => fun cls d σ H => ∃ b, PySem.W.exmOne K cls c = some b ∧ (b = true → ∀ a, H a = none → ts a cls d (asE o D) (asS o a σ) H) ∧ (b = false → wMix K Wout D r cls d σ H)
inductive HdsMx (X : Cx) : List ExceptHandler → List HdW → Prop
  | nil : HdsMx X [] []
  | one {x : Str} {c : Value} {ts : Addr → Value → Option Addr → TS} {b₀ : Stmt} {suite : List Stmt} {np pos' : Pos} {hds : List ExceptHandler} {l : List HdW} (hc : Names X x c)
      (hsu : ∀ (a : Addr) (oe : Obj) (cls : Value) (d : Option Addr) (pn : List (Addr × Obj)), Zc cls d oe → (∃ vs, oe.data = .fields vs) → PSs (X.suite a ((a, oe) :: pn)) (b₀ :: suite) (ts a cls d)) (r : HdsMx X hds l) :
      HdsMx X (.ExceptHandler (some (.Name x np)) none (b₀ :: suite) pos' :: hds) ((c, none, ts) :: l)
  | as_ {x n : Str} {i : Nat} {c : Value} {ts : Addr → Value → Option Addr → TS} {b₀ : Stmt} {suite : List Stmt} {np pos' : Pos} {hds : List ExceptHandler} {l : List HdW} (hN : X.N.Nodup) (hi : X.N[i]? = some n) (hln : X.env.kindOf n = some .local) (hc : Names X x c)
      (hsu : ∀ (a : Addr) (oe : Obj) (cls : Value) (d : Option Addr) (pn : List (Addr × Obj)), Zc cls d oe → (∃ vs, oe.data = .fields vs) → PSs (X.suite a ((a, oe) :: pn)) (b₀ :: suite) (ts a cls d)) (r : HdsMx X hds l) :
      HdsMx X (.ExceptHandler (some (.Name x np)) (some n) (b₀ :: suite) pos' :: hds) ((c, some i, ts) :: l)
section
variable {X : Cx} {body : List Stmt} {h₀ : ExceptHandler} {hds : List ExceptHandler} {l : List HdW} {pos : Pos} {tb : WX → TS} {Wout : WX}
theorem ps_try_mix (hs : X.stack = X.env :: X.outer) (hf : X.env.frame = some X.env.locals) (tk : Takes X Wout)
    (hb : ∀ (W : WX) (pn : List (Addr × Obj)) (xe : Value → Shared → Prop), Takes (X.tr pn xe) W → PassesOwn (model X.prog X.w) X.A X.env xe → PSs (X.tr pn xe) body (tb W))
    (hh : HdsMx X (h₀ :: hds) l) : PS X (.Try body (h₀ :: hds) [] [] pos) (fun D σ H => tb (wMix X.K Wout D l) D σ H) := by
  refine ⟨fun pins s σ H D I h => ?_⟩
  have ok := I.ok
  have hfr : X.A.frames = some (X.env :: X.outer) := by rw [ok.frames, hs]
  refine wpAny_Try_except ?_
  refine wpAny_mono ((hb (wMix X.K Wout D l) (X.pn ++ pins) (fun e s₁ => wpAny (model X.prog X.w) X.A (noteFrame e X.env) (fun _ s₂ => wpAny (model X.prog X.w) X.A (setFlight e none) (fun _ s₃ =>
    wpAny (model X.prog X.w) X.A (handleBy e X.env (h₀ :: hds)) (SP X pins D) X.xe s₃) X.xe s₂) X.xe s₁) (fun u s' xx => ?_) PassesOwn.looking).run [] s σ H D (I.toTry _) h) (fun f s1 hsp => ?_) (fun e s1 he => he)
  · -- the catch
    obtain ⟨a, B, sI, pins', σ', H', cls, d, rfl, J', nb, up, sky, na, os, ag, w⟩ := xx
    have J : Inv X pins σ' H' sI := J'.ofTry ok
    have sky' : Sky B (X.env :: X.outer) a (Zc cls d) X.env.locals s'.heap := by rw [← hs]; exact sky
    show wpAny (model X.prog X.w) X.A (noteFrame (.ref a) X.env) _ _ _
    refine Sky.land Zc.steady hfr hf sky' fun h3 fl3 up3 => ?_
    have J3 : Inv X pins σ' H' { s' with heap := h3 } := J.landed nb fl3.1 (up.trans up3) os ag
    obtain ⟨oe3, vs3, he3, hz3, hd3⟩ := fl3.there
    have notFr : ∀ {h : Heap} {o : Obj} {vs : Array Value}, h.FunFrames B (X.env :: X.outer) → h.get? a = some o → o.data = .fields vs → a ∉ frs (X.env :: X.outer) := fun {h o vs} ff e dd hm => by
      obtain ⟨_, o', e', hnf⟩ := ff.mem hm
      rw [e] at e'; cases e'
      exact hnf _ dd
    have nfr := notFr fl3.2.2.1 he3 hd3
    have nL : a ≠ X.env.locals := fun z => nfr (List.mem_filterMap.mpr ⟨X.env, List.mem_cons_self, by rw [hf, z]⟩)
    have nF : a ∉ X.fs := fun hm => by
      obtain ⟨e, he, q⟩ := List.mem_filterMap.mp hm
      exact nfr (List.mem_filterMap.mpr ⟨e, List.mem_cons_of_mem _ he, q⟩)
    have S3 := J3.suite he3 hd3 na nL nF
    have go : ∀ {hds' : List ExceptHandler} {l' : List HdW}, HdsMx X hds' l' → wMix X.K Wout D l' cls d σ' H' →
        wpAny (model X.prog X.w) X.A (handleBy (.ref a) X.env hds') (SP X pins D) X.xe { s' with heap := h3 } := by
      intro hds' l' hk
      induction hk with
      | nil =>
        intro w
        refine wpAny_handleBy_nil ?_
        obtain ⟨k1, k2, k3, oe, vs, T, oT, ts', he, hz, hd, h1, hr⟩ := id fl3
        unfold PySem.passOn
        refine wpAny_bind (wpAny_field he hd h1 ?_)
        rw [if_neg (show ¬ ((Value.ref T == Value.none) = true) from by simp)]
        have fin : wpAny (model X.prog X.w) X.A (setFlight (.ref a) X.env.frame) (fun _ s4 => wpAny (model X.prog X.w) X.A (throw (.ref a) : Sem Flow) (SP X pins D) X.xe s4) X.xe { s' with heap := h3 } := by
          rw [hf]
          refine HandSPX.setFlight_upZ fl3 fun h4 hh4 up4 => wpAny_throw (tk _ _ ?_)
          exact ⟨a, B, sI, pins, σ', H', cls, d, rfl, J, nb, (up.trans up3).trans up4, .inr (.inr (by rw [hs]; exact hh4)), na, os, ag, w⟩
        first
          | exact wpAny_bind (wpAny_pure (wpAny_bind fin))
          | exact wpAny_bind fin
      | @one x c ts b₀ suite np pos' hds2 l2 hc hsu r ih =>
        intro w
        obtain ⟨b, hb1, hyes, hno⟩ := w
        refine wpAny_handleBy_cons (codeAny_handlers_test ?_) (by intro q; cases q)
        have LT : PySem.W.Looks (model X.prog X.w) h3 (typeOf (.ref a)) cls := fun A Q E s k q => wpAny_typeOf_ref (k _ _ he3) (by rw [hz3.1]; exact q)
        have LM := PySem.W.exm_one (M := model X.prog X.w) (J3.kIn) LT hb1
        have test : ∀ {Q : Value → Shared → Prop} {E : Value → Shared → Prop}, Q c { s' with heap := h3 } → wpAny (model X.prog X.w) (X.A.mark (some (.ref a))) (eval (.Name x np) X.env) Q E { s' with heap := h3 } := fun {Q E} q => by
          obtain ⟨hg, hdbg, hm | ⟨hm, hv, hnn⟩⟩ := hc
          · exact ld_glob (X := X.suite a ((a, oe3) :: (X.pn ++ pins))) S3 hg hm q hdbg
          · exact ld_blt (X := X.suite a ((a, oe3) :: (X.pn ++ pins))) S3 hg hm hv q hnn hdbg
        refine test (LM.here ?_)
        cases b with
        | true =>
          refine codeAny_handlers_suite ?_
          refine HandSPX.lands_againZ fl3 fun h4 fl4 up4 => ?_
          have J4 : Inv X pins σ' H' { s' with heap := h4 } := J.landed nb fl4.1 ((up.trans up3).trans up4) os ag
          obtain ⟨oe4, vs4, he4, hz4, hd4⟩ := fl4.there
          have S4 := J4.suite he4 hd4 na nL nF
          refine wpAny_mono ((hsu a oe4 cls d (X.pn ++ pins) hz4 ⟨_, hd4⟩).run [] _ _ H' _ S4 (hyes rfl a na)) (fun f s6 hsp => ?_) (fun _ _ z => False.elim z)
          cases f with
          | next =>
            obtain ⟨σ6, H6, S6, q6⟩ := hsp
            exact ⟨_, _, S6.unsuite ok, q6⟩
          | brk =>
            obtain ⟨σ6, H6, S6, q6⟩ := hsp
            exact ⟨_, _, S6.unsuite ok, q6⟩
          | cont =>
            obtain ⟨σ6, H6, S6, q6⟩ := hsp
            exact ⟨_, _, S6.unsuite ok, q6⟩
          | ret u =>
            obtain ⟨v6, σ6, H6, S6, r6, q6⟩ := hsp
            exact ⟨_, _, _, S6.unsuite ok, r6, q6⟩
        | false =>
          show wpAny _ X.A (handleBy (.ref a) X.env hds2) _ _ _
          exact ih (hno rfl)
      | @as_ x n i c ts b₀ suite np pos' hds2 l2 hN hi hln hc hsu r ih =>
        intro w
        obtain ⟨b, hb1, hyes, hno⟩ := w
        have hloc : Loc X.env.scope n := .inl hln
        refine wpAny_handleBy_cons (codeAny_handlers_test ?_) (by intro q; cases q)
        have LT : PySem.W.Looks (model X.prog X.w) h3 (typeOf (.ref a)) cls := fun A Q E s k q => wpAny_typeOf_ref (k _ _ he3) (by rw [hz3.1]; exact q)
        have LM := PySem.W.exm_one (M := model X.prog X.w) (J3.kIn) LT hb1
        have test : ∀ {Q : Value → Shared → Prop} {E : Value → Shared → Prop}, Q c { s' with heap := h3 } → wpAny (model X.prog X.w) (X.A.mark (some (.ref a))) (eval (.Name x np) X.env) Q E { s' with heap := h3 } := fun {Q E} q => by
          obtain ⟨hg, hdbg, hm | ⟨hm, hv, hnn⟩⟩ := hc
          · exact ld_glob (X := X.suite a ((a, oe3) :: (X.pn ++ pins))) S3 hg hm q hdbg
          · exact ld_blt (X := X.suite a ((a, oe3) :: (X.pn ++ pins))) S3 hg hm hv q hnn hdbg
        refine test (LM.here ?_)
        cases b with
        | true =>
          refine codeAny_handlers_suite_as ?_
          refine HandSPX.lands_againZ fl3 fun h4 fl4 up4 => ?_
          have J4 : Inv X pins σ' H' { s' with heap := h4 } := J.landed nb fl4.1 ((up.trans up3).trans up4) os ag
          obtain ⟨oe4, vs4, he4, hz4, hd4⟩ := fl4.there
          have S4 := J4.suite he4 hd4 na nL nF
          refine store_ok (X := X.suite a ((a, oe4) :: (X.pn ++ pins))) (v := .ref a) S4 hN hi hloc rfl (fun s5 S5 => ?_) (.inr hln)
          refine wpAny_mono ((hsu a oe4 cls d (X.pn ++ pins) hz4 ⟨_, hd4⟩).run [] s5 _ H' _ S5 (hyes rfl a na)) (fun f s6 hsp => ?_) (fun _ _ z => False.elim z)
          have end_ : ∀ {σ6 : L2.St} {H6 : Hp} {Q : Shared → Prop}, Inv (X.suite a ((a, oe4) :: (X.pn ++ pins))) [] σ6 H6 s6 → (∀ s7, Inv X pins (σ6.set i none) H6 s7 → Q s7) →
              wpAny (model X.prog X.w) X.A (do bindName X.env n .none; unbindBehindTheSuite X.env n pos') (fun _ s7 => Q s7) X.xe s6 := fun {σ6 H6 Q} S6 hq => gone_ok (S6.unsuite ok) hN hi hln hq
          cases f with
          | next =>
            obtain ⟨σ6, H6, S6, q6⟩ := hsp
            exact end_ S6 fun s7 J7 => ⟨_, _, J7, q6⟩
          | brk =>
            obtain ⟨σ6, H6, S6, q6⟩ := hsp
            exact end_ S6 fun s7 J7 => ⟨_, _, J7, q6⟩
          | cont =>
            obtain ⟨σ6, H6, S6, q6⟩ := hsp
            exact end_ S6 fun s7 J7 => ⟨_, _, J7, q6⟩
          | ret u =>
            obtain ⟨v6, σ6, H6, S6, r6, q6⟩ := hsp
            exact end_ S6 fun s7 J7 => ⟨_, _, _, J7, r6, q6⟩
        | false =>
          show wpAny _ X.A (handleBy (.ref a) X.env hds2) _ _ _
          exact ih (hno rfl)
    exact go hh w
  · cases f with
    | next =>
      obtain ⟨σ', H', J', q⟩ := hsp
      exact wpAny_execs_nil ⟨σ', H', J'.ofTry ok, q⟩
    | brk =>
      obtain ⟨σ', H', J', q⟩ := hsp
      exact ⟨σ', H', J'.ofTry ok, q⟩
    | cont =>
      obtain ⟨σ', H', J', q⟩ := hsp
      exact ⟨σ', H', J'.ofTry ok, q⟩
    | ret u =>
      obtain ⟨v, σ', H', J', r, q⟩ := hsp
      exact ⟨v, σ', H', J'.ofTry ok, r, q⟩
end
end ZR
set_option Elab.async false
set_option linter.all false
set_option maxRecDepth 100000
set_option maxHeartbeats 4000000
/-! Rules of my own: raise C(), C an own class with an own __init__ that keeps nothing; functions that may let something out. -/
namespace ZR
open PySem PySem.Spec PyProof.Rows L2 ZX
section
variable {X : Cx} {x : Str} {p pos : Pos} {C fI : Addr} {k : Nat} {fd : FuncData} {ps : List Str} {sp : Sp}
def tMkN (C : Addr) (sp : Sp) : TE := fun _ H Q => ∀ a, H a = none → sp [.ref a] (upd H a (exo a C none)) (fun v H2 => v = .non ∧ H2 a = some (exo a C none) ∧ Q (.ref a) (upd H2 a (ExO (.ref C) a))) fun _ _ _ => False
theorem pe_oexN (T : OexC X.K C) (iC : PySem.W.findIn X.K (.ref C) "__init__" = some (some (.ref fI))) (tI : PySem.W.typeIn X.K (.ref fI) = some (.type "function"))
    (F1 : FnOk X.prog X.w X.K X.mg X.base CX0 k fI fd ps sp) (hi : ∀ vs H Q Q' E, (∀ v H', Q v H' → Q' v H') → sp vs H Q E → sp vs H Q' E) (hr : Room (k + 1) X.A) (hb : Binds X.K fd ps []) (hg : Gl X x) (hm : X.mg x = some (.ref C)) (hdb : (x == ("__debug__" : Str)) = false := by decide) :
    PE X (.Call (.Name x p) [] [] pos) (tMkN C sp) := by
  refine ⟨fun pins s σ H Q I h => ?_⟩
  refine wpAny_mono ((pe_oex0 T iC tI F1 hr hb hg hm hdb).run pins s σ H (fun v H2 => ∃ a, v = .ref a ∧ H2 a = some (exo a C none) ∧ Q (.ref a) (upd H2 a (ExO (.ref C) a))) I ⟨Nat.zero_le _, fun a n => ?_⟩) (fun u s' hu => ?_) fun _ _ z => z
  · exact hi _ _ _ _ _ (fun v H' q => ⟨q.1, a, rfl, q.2.1, q.2.2⟩) (h a n)
  · obtain ⟨v, H2, I2, r, a, rfl, ha, q⟩ := hu
    obtain ⟨t1, hg⟩ := exo_at I2.hok ha
    refine ⟨.ref a, upd H2 a (ExO (.ref C) a), I2.write (x := a) (e := a) (h' := s'.heap) (t' := s'.toks) (by rw [ha]; trivial) (.inl rfl) (fun _ _ _ z => z) ⟨_, hg⟩ ?_, r, q⟩
    exact exO_ok hg ⟨rfl, rfl⟩ rfl rfl rfl (show 4 < 6 by decide)
end
end ZR
set_option Elab.async false
set_option linter.all false
set_option maxRecDepth 100000
set_option maxHeartbeats 4000000
/-! Rules of my own: C(e, ..), C's own __init__ letting something out; an error with one field, raised. -/
namespace ZR
open PySem PySem.Spec PyProof.Rows L2 ZX PM
def tMakeS (C : Addr) (sp : Sp) (E : L2.St → XK) (t : TA) : TE := fun σ H Q => t σ H fun vs H1 => ∀ x dx, H1 x = none → H1 dx = none → dx ≠ x →
  sp (.ref x :: vs) (upd (upd H1 dx (.own x)) x (.ins C dx [])) (fun v H2 => v = .non ∧ Q (.ref x) H2) (E σ)
section
variable {X : Cx} {CX : CXT} {k : Nat} {f C : Addr} {fd : FuncData} {ps : List Str} {sp : Sp} {E : L2.St → XK} {x : Str} {p pos : Pos} {e : Expr} {es : List Expr} {t : TA}
theorem pe_makeS (M : Mk X.K C f) (F : FnOk X.prog X.w X.K X.mg X.base CX k f fd ps sp) (hr : Room (k + 1) X.A) (hg : Gl X x) (hm : X.mg x = some (.ref C)) (hb : Binds X.K fd ps []) (hx : ∀ σ, PassesAt CX X σ (E σ))
    (ha : PA X (e :: es) t) (hdb : (x == ("__debug__" : Str)) = false := by decide) (he : starEach (e :: es) X.env = (false, eval e X.env) :: starEach es X.env := by rfl) (hpl : (backTo pos (starEach es X.env)).any (·.1) = false := by rfl) :
    PE X (.Call (.Name x p) (e :: es) [] pos) (tMakeS C sp E t) := by
  refine ⟨fun pins s σ H Q I h => ?_⟩
  refine wpAny_Call_Name_kw (ld_glob I hg hm ?_ hdb)
  refine PySem.W.callWith_K (h₀ := X.base) I.ok.mod.kin M.kp (thn (ha.run pos pins s σ H _ I h) fun us s1 ⟨vs, H1, I1, r, q⟩ => ⟨I1.kIn, ?_⟩) he hpl
  have hq := q (s1.heap.objs.size + 1) s1.heap.objs.size (I1.hok.fresh (Nat.le_succ _)) (I1.hok.fresh (Nat.le_refl _)) (Nat.ne_of_lt (Nat.lt_succ_self _))
  have I2 := Inv.made (C := C) I1
  have r2 : Vals (V.ref (s1.heap.objs.size + 1) :: vs) (Value.ref (s1.heap.objs.size + 1) :: us) := .cons rfl r
  have hl : (Value.ref (s1.heap.objs.size + 1) :: us ++ []).length = ps.length := by
    have e := r2.length
    rw [F.len _ _ _ _ hq] at e
    rw [List.append_nil]
    exact e.symm
  have bb := hb { s1 with heap := _ } (Value.ref (s1.heap.objs.size + 1) :: us) I2.kIn hl
  rw [List.append_nil] at bb
  refine wpAny_call (make_map (f := f) I1.kIn M.makes M.init (beq_iff_eq.mp M.fn) (codeAny_mono (F.run _ X.stack _ _ ⟨Value.ref (s1.heap.objs.size + 1) :: us, []⟩ (Value.ref (s1.heap.objs.size + 1) :: us) _ _ (E σ) (hr.make C us [])
    (I2.env0.make C us []) bb r2 hq) fun r s' hq' => ?_))
  cases r with
  | error e => exact hx σ pins _ _ e s' I2 hq'
  | ok fl =>
    cases fl with
    | ret u =>
      obtain ⟨v, H', I3, rv, ev, q3⟩ := I2.after hq'
      subst ev
      exact ⟨rv, ⟨V.ref (s1.heap.objs.size + 1), H', I3, rfl, q3⟩⟩
    | next => exact False.elim hq'
    | brk => exact False.elim hq'
    | cont => exact False.elim hq'
end
/-- what the __init__ of an error with one field does -/
def spF (C : Addr) (f : Str) : Sp := fun vs H Q _ => ∃ (a : Addr) (v : V), vs = [.ref a, v] ∧ H a = some (exo a C none) ∧ ∀ dx, H dx = none → dx ≠ a → Q .non (upd (upd H dx (exd dx [(f, v)])) a (exo a C (some dx)))
/-- raise C(v): a new dict with the field, all else as it was -/
theorem rdF {C : Addr} {f : Str} {v : V} {H : Hp} {Q : XK} (k : ∀ (d : Addr) (H' : Hp), Same H H' → H' d = some (.xd [(f, v)]) → Q (.ref C) (some d) H') :
    [v].length ≤ 1000 ∧ ∀ a, H a = none → spF C f (.ref a :: ([v] ++ [])) (upd H a (exo a C none)) (fun u H2 => u = .non ∧ ∃ (d : Addr) (fs : List (Str × V)), H2 a = some (exo a C (some d)) ∧ H2 d = some (exd d fs) ∧ H d = none ∧ Q (.ref C) (some d) (upd (L2.del H2 a) d (.xd fs))) (fun _ _ _ => False) :=
  ⟨by show 1 ≤ 1000; decide, fun a na => ⟨a, v, rfl, upd_same, fun dd nd ne => by
    rw [upd_ne ne] at nd
    refine ⟨rfl, dd, [(f, v)], upd_same, by rw [upd_ne ne, upd_same], nd, k dd _ (fun b o e => ?_) upd_same⟩
    have nb : b ≠ a := ne_of_none e na
    have nb2 : b ≠ dd := ne_of_none e nd
    rw [upd_ne nb2, L2.del_ne nb, upd_ne nb, upd_ne nb2, upd_ne nb]
    exact e⟩⟩
/-- a class of errors with one field, as the walk asks of it -/
structure ErF (P : Program) (w : World) (K : PySem.W.Frag) (mg : Str → Option Value) (base : Heap) (x f : Str) (CN fI : Addr) (fd : FuncData) (ps : List Str) : Prop where
  T : OexC K CN
  iC : PySem.W.findIn K (.ref CN) "__init__" = some (some (.ref fI))
  tI : PySem.W.typeIn K (.ref fI) = some (.type "function")
  F1 : FnOk P w K mg base CX0 1 fI fd ps (spF CN f)
  bd : Binds K fd ps []
  g : mg x = some (.ref CN)
end ZR
namespace K05
open PySem PySem.Spec PyProof.Rows L2 ZX PM ZR
def spInitD (K : PySem.W.Frag) (C CB : Addr) : Sp := fun vs H Q E => ∃ (x dx : Addr) (v : V) (d : Dt) (o : Option Int), vs = [.ref x, v] ∧ H x = some (.ins C dx []) ∧ Td K C H v d ∧ szD d ≤ 1000000 ∧ BadIs d o ∧
  (o = none → ∀ fs H', Kp x H H' → Pt H H' → H' x = some (.ins C dx fs) → fs.lookup ("block" : Str) = some v → Q .non H') ∧ ∀ i, o = some i → ∀ e H', Same H H' → H' e = some (.xd [("place", .int i)]) → E (.ref CB) (some e) H'
section
variable {P : Program} {w : World} {K : PySem.W.Frag} {mg : Str → Option Value} {base : Heap}
theorem ok_initD {C f CB fB : Addr} {fd fdB : FuncData} {psB : List Str} (O : OthC K C) (N : ErF P w K mg base "BadProgram" "place" CB fB fdB psB) (F : FunD K "__init__" "Program.__init__" (defArgs sProgramInit) (defBody sProgramInit) (defScope sProgramInit) [] [] f fd) (T : Bi mg) (c : PrC K C) (C_bad_place : Cal P w K mg base "bad_place" 6 ["block", "many"] (spBadD K C)) (C_rows_of : Cal P w K mg base "rows_of" 5 ["block"] (spRowsOf K 4)) (C_all_names : Cal P w K mg base "all_names" 3 ["rows"] (spAllNames K)) (C_block_leads : Cal P w K mg base "block_leads" 15 ["block", "place", "behind"] (spBlockLeads K 4)) : FnOk P w K mg base (L2.CX P w) 16 f fd ["self", "block"] (spInitD K C CB) := by
  refine F.ok scProgramInit (fun vs H Q E h => ?_) (fun cdv A outer s H vs Q E hr h => ?_)
  · obtain ⟨x, dx, v, d, o, rfl, _⟩ := h
    rfl
  · obtain ⟨x, dx, v, d, o, rfl, hx, td, hsz, hB, k, ke⟩ := h
    have hr_bad_place := hr.mono (show 6 ≤ 15 by decide)
    have hr_rows_of := hr.mono (show 5 ≤ 15 by decide)
    have hr_all_names := hr.mono (show 3 ≤ 15 by decide)
    have hr_block_leads := hr
    refine ⟨_, (pss_cons (ps_set (i := 2) scProgramInit.nd rfl (Or.inl rfl) (pcal C_bad_place hr_bad_place rfl (pa_cons (pv 1) (pa_cons pe_int pa_nil))))
    (pss_cons (ps_if (pt_cmpR op_notN (pv 2) pe_non (nomark _)) (pss_one (ps_raise rfl (takes_of rfl rfl rfl rfl) (pmk_oex N.T N.iC N.tI N.F1 (hr.mono (by decide)) N.bd .nil pass0 rfl N.g (pa_cons (pv 2) pa_nil)))) pss_nil)
    (pss_cut (ps_fld (pv 0) (pv 1) rfl)
    (pss_cut (ps_fld (pv 0) (pe_callTy call_tuple_of (by rfl) T.b_tuple (by decide +kernel) (pa_cons (pcal C_rows_of hr_rows_of rfl (pa_cons (pv 1) pa_nil)) pa_nil)) rfl)
    (pss_cut (ps_fld (pv 0) (pcal C_all_names hr_all_names rfl (pa_cons (pe_fld (pv 0) rfl) pa_nil)) rfl)
    (pss_one (ps_fld (pv 0) (pe_callTy call_tuple_of (by rfl) T.b_tuple (by decide +kernel) (pa_cons (pe_op op_cat (pcal C_block_leads hr_block_leads rfl (pa_cons (pv 1) (pa_cons pe_int (pa_cons (pe_callB call_len_seq (by rfl) T.b_len (by decide +kernel) (pa_cons (pe_fld (pv 0) rfl) pa_nil)) pa_nil)))) (pe_lst (pa_cons (pe_tup pa_nil) pa_nil))) pa_nil)) rfl))))))), ?_⟩
    refine ⟨_, rfl, v, d, o, rfl, td, hsz, hB, fun H1 s1 => ?_⟩
    have hx1 := s1 _ _ hx
    cases o with
    | some i => exact ⟨_, rfl, rfl, true, rfl, _, rfl, rdF fun e H' sm he => ke i rfl e H' (s1.trans sm) he⟩
    | none =>
    have k := k rfl
    cases hB with
    | @good b m hw G =>
    obtain ⟨va, xs, rfl, hS, ht⟩ := Td.tupI td
    have tv : BV K H (.ref va) b := .tup hS (Tds.bd _ _ ht)
    have hdep := ok_depB G.ok (by decide)
    have l30 := G.l30
    refine ⟨_, rfl, rfl, false, rfl, ?_⟩
    refine ⟨fun σ' H' => σ' = [some (.ref x), some (.ref va), some .non] ∧ Kp x H H' ∧ Pt H H' ∧ H' x = some (.ins C dx [("block", .ref va)]), ?_, ?_⟩
    · refine ⟨_, rfl, _, rfl, x, C, dx, _, rfl, hx1, c.c, c.n1, (by decide), ?_⟩
      exact ⟨rfl, (Same.kp s1).put, s1.pt.trans (Pt.ins hx1), upd_same⟩
    rintro σ2 H2 ⟨rfl, kp2, p2, hx2⟩
    refine ⟨fun σ' H' => ∃ ra rs, σ' = [some (.ref x), some (.ref va), some .non] ∧ Kp x H H' ∧ Pt H H' ∧ H' x = some (.ins C dx [("block", .ref va), ("_rows", .ref ra)]) ∧ SqT K H' ra rs ∧ Tvs K H' rs ((rowsB b).map dR), ?_, ?_⟩
    · refine ⟨_, rfl, .ref va, b, rfl, tv.pt p2, by omega, by omega, fun l us H3 s3 nl hl hu => ?_⟩
      refine ⟨l, us, rfl, .inl ⟨SqL.of hl, fun t nt => ?_⟩⟩
      have s4 := s3.trans (same_new (o := .tup us) nt)
      have hx4 := s4 _ _ hx2
      refine ⟨_, rfl, x, C, dx, _, rfl, hx4, c.c, c.n2, (by show 1 < 1000; decide), ?_⟩
      have p5 := Pt.ins (o := .ins C dx (putF "_rows" (.ref t) [("block", .ref va)])) hx4
      exact ⟨t, us, rfl, (kp2.same s4).put, (p2.trans s4.pt).trans p5, upd_same, p5.sq (.inl (.inl upd_same)), (hu.pt (same_new (o := .tup us) nt).pt).pt p5⟩
    rintro σ3 H3 ⟨ra, rs, rfl, kp3, p3, hx3, hra, hrs⟩
    have hrl := hrs.len
    rw [List.length_map] at hrl
    refine ⟨fun σ' H' => ∃ na, σ' = [some (.ref x), some (.ref va), some .non] ∧ Kp x H H' ∧ Pt H H' ∧ H' x = some (.ins C dx [("block", .ref va), ("_rows", .ref ra), ("_names", .ref na)]) ∧ SqT K H' ra rs, ?_, ?_⟩
    · refine ⟨_, rfl, x, C, dx, _, _, rfl, hx3, c.c, c.n2, rfl, ra, rs, rowsB b, rfl, .inr hra, hrs, ok_names_B G.ok, by omega, fun na ys H4 s4 nn ly hn => ?_⟩
      have hx4 := s4 _ _ hx3
      refine ⟨_, rfl, x, C, dx, _, rfl, hx4, c.c, c.n4, (by show 2 < 1000; decide), ?_⟩
      have p5 := Pt.ins (o := .ins C dx (putF "_names" (.ref na) [("block", .ref va), ("_rows", .ref ra)])) hx4
      exact ⟨na, rfl, (kp3.same s4).put, (p3.trans s4.pt).trans p5, upd_same, (s4.pt.trans p5).sq hra⟩
    rintro σ4 H4 ⟨na, rfl, kp4, p4, hx4, hra⟩
    refine ⟨_, rfl, _, rfl, x, C, dx, _, _, rfl, hx4, c.c, c.n2, rfl, ra, rs, rfl, .inr hra, .ref va, b, 0, (rowsB b).length, by rw [← hrl]; rfl, tv.pt p4, by omega, by omega, by omega, fun l6 ls H6 s6 n6 h6 t6 => ?_⟩
    have hll := t6.len
    rw [List.length_map, leadsB_len] at hll
    refine ⟨by decide, fun t0 nt0 => ⟨by show 1 ≤ sizeLine; decide, fun l7 nl7 => ?_⟩⟩
    have s7 := (s6.trans (same_new (o := .tup []) nt0)).trans (same_new (o := .lst [.ref t0]) nl7)
    refine ⟨l6, l7, ls, _, rfl, rfl, ((same_new (o := .tup []) nt0).trans (same_new (o := .lst [.ref t0]) nl7)) _ _ h6, upd_same, Nat.le_trans (show ls.length + 1 ≤ 1000 by omega) (by decide), fun l8 nl8 => ?_⟩
    refine ⟨l8, _, rfl, .inl ⟨SqL.of upd_same, fun t9 nt9 => ?_⟩⟩
    have s9 := (s7.trans (same_new (o := .lst (ls ++ [.ref t0])) nl8)).trans (same_new (o := .tup (ls ++ [.ref t0])) nt9)
    have hx9 := s9 _ _ hx4
    exact ⟨_, rfl, x, C, dx, _, rfl, hx9, c.c, c.n3, (by show 3 < 1000; decide), k _ _ ((kp4.same s9).put) ((p4.trans s9.pt).trans (Pt.ins hx9)) upd_same rfl⟩
end
end K05
set_option Elab.async false
set_option linter.all false
set_option maxRecDepth 100000
set_option maxHeartbeats 4000000
/-! Written things as things of any kind; how deep, how large; what may be put into. -/
namespace PM
open PySem PySem.Spec PyProof.Rows L2 ZX ZR
theorem rk_two {h i : Dt} {t : List Dt} (e : rkD (.tup (h :: i :: t)) = true) : flatD h = true ∧ rkI i = true := by
  rw [rkD, rkT, rkU] at e
  exact Bool.and_eq_true_iff.mp e
theorem rkL_app {a b : List Dt} : rkL (a ++ b) = (rkL a && rkL b) := by
  induction a with
  | nil => rw [List.nil_append, rkL, Bool.true_and]
  | cons x a ih => rw [List.cons_append, rkL, rkL, ih, Bool.and_assoc]
theorem rkL_mem {d : Dt} : ∀ {l : List Dt}, rkL l = true → d ∈ l → rkD d = true
  | x :: l, h, m => by
    rw [rkL] at h
    obtain ⟨h1, h2⟩ := Bool.and_eq_true_iff.mp h
    rcases List.mem_cons.mp m with rfl | m
    · exact h1
    · exact rkL_mem h2 m
theorem dpL_app (a b : List Dt) : dpL (a ++ b) = max (dpL a) (dpL b) := by
  induction a with
  | nil => rw [List.nil_append, dpL]; omega
  | cons x a ih => rw [List.cons_append, dpL, dpL, ih]; omega
theorem dpL_mem {d : Dt} : ∀ {l : List Dt}, d ∈ l → dpD d ≤ dpL l
  | x :: l, h => by
    rw [dpL]
    rcases List.mem_cons.mp h with rfl | h
    · omega
    · have := dpL_mem h
      omega
mutual
theorem dp_sz : ∀ d : Dt, dpD d ≤ szD d
  | .tup ds => by
    have := dp_szL ds
    rw [dpD, szD]
    omega
  | .str _ => Nat.zero_le _
  | .int _ => Nat.zero_le _
  | .bl _ => Nat.zero_le _
  | .oth => Nat.zero_le _
theorem dp_szL : ∀ ds : List Dt, dpL ds ≤ szL ds
  | [] => Nat.le_refl _
  | d :: ds => by
    have := dp_sz d
    have := dp_szL ds
    rw [dpL, szL]
    omega
end
theorem dpL_strs (ps : List Str) : dpL (ps.map Dt.str) = 0 := by
  induction ps with
  | nil => rfl
  | cons x ps ih => rw [List.map_cons, dpL, ih, dpD]; rfl
mutual
theorem dp_bR : ∀ (r : Rw) (d : Nat), okR d r → d ≤ 4 → dpD (rD r) + 2 * d ≤ 10
  | .either a b, d, ok, h => by
    obtain ⟨h4, _, _, o1, o2⟩ := ok
    have h1 := dp_bB a (d + 1) o1 (by omega)
    have h2 := dp_bB b (d + 1) o2 (by omega)
    show dpL [.str "either", .tup (bD a), .tup (bD b)] + 1 + 2 * d ≤ 10
    simp only [dpL, dpD]
    omega
  | .again a, d, ok, h => by
    obtain ⟨h4, _, o1⟩ := ok
    have h1 := dp_bB a (d + 1) o1 (by omega)
    show dpL [.str "again", .tup (bD a)] + 1 + 2 * d ≤ 10
    simp only [dpL, dpD]
    omega
  | .note x o ps, d, ok, h => by
    show dpL [.str "note", .str x, .str o, .tup (ps.map .str)] + 1 + 2 * d ≤ 10
    simp only [dpL, dpD, dpL_strs]
    omega
  | .copy x y, d, ok, h => by
    show dpL [.str "copy", .str x, .str y] + 1 + 2 * d ≤ 10
    simp only [dpL, dpD]
    omega
  | .give x i, d, ok, h => by
    show dpL [.str "give", .str x, .int i] + 1 + 2 * d ≤ 10
    simp only [dpL, dpD]
    omega
  | .ask x, d, ok, h => by
    show dpL [.str "ask", .str x] + 1 + 2 * d ≤ 10
    simp only [dpL, dpD]
    omega
  | .prt x, d, ok, h => by
    show dpL [.str "print", .str x] + 1 + 2 * d ≤ 10
    simp only [dpL, dpD]
    omega
theorem dp_bB : ∀ (b : List Rw) (d : Nat), okB d b → d ≤ 4 → dpL (bD b) + 2 * d ≤ 10
  | [], d, _, h => by
    show 0 + 2 * d ≤ 10
    omega
  | r :: b, d, ok, h => by
    have h1 := dp_bR r d ok.1 h
    have h2 := dp_bB b d ok.2 h
    rw [bD, dpL]
    omega
end
mutual
theorem rk_bR : ∀ r : Rw, rkD (rD r) = true
  | .either a b => by
    have := rk_bB a
    show rkD (.tup [.str "either", .tup (bD a), .tup (bD b)]) = true
    rw [rkD, rkT, rkU, rkI, this]
    rfl
  | .again a => by
    have := rk_bB a
    show rkD (.tup [.str "again", .tup (bD a)]) = true
    rw [rkD, rkT, rkU, rkI, this]
    rfl
  | .note x o ps => by
    show rkD (.tup [.str "note", .str x, .str o, .tup (ps.map .str)]) = true
    rw [rkD, rkT, rkU, rkI]
    rfl
  | .copy x y => by
    show rkD (.tup [.str "copy", .str x, .str y]) = true
    rw [rkD, rkT, rkU, rkI]
    rfl
  | .give x i => by
    show rkD (.tup [.str "give", .str x, .int i]) = true
    rw [rkD, rkT, rkU, rkI]
    rfl
  | .ask x => by
    show rkD (.tup [.str "ask", .str x]) = true
    rw [rkD, rkT, rkU, rkI]
    rfl
  | .prt x => by
    show rkD (.tup [.str "print", .str x]) = true
    rw [rkD, rkT, rkU, rkI]
    rfl
theorem rk_bB : ∀ b : List Rw, rkL (bD b) = true
  | [] => by rw [bD, rkL]
  | r :: b => by rw [bD, rkL, rk_bR r, rk_bB b]; rfl
end
theorem flatV_of {K : PySem.W.Frag} {C : Addr} {H : Hp} {v : V} {d : Dt} (h : Td K C H v d) (f : flatD d = true) : flatV v = true := by
  cases d with
  | str x => cases h; rfl
  | int i => cases h; rfl
  | bl b => cases h; rfl
  | tup ds => cases f
  | oth => cases f
/-! ### written things -/
section
variable {K : PySem.W.Frag} {C : Addr}
def tLit (K : PySem.W.Frag) (C : Addr) (d : Dt) : TE := fun _ H Q => ∀ v H', Same H H' → Td K C H' v d → Q v H'
def tLits (K : PySem.W.Frag) (C : Addr) (ds : List Dt) : TA := fun _ H Q => ∀ vs H', Same H H' → Tds K C H' vs ds → Q vs H'
theorem PE.weak {X : Cx} {e : Expr} {te te' : TE} (h : PE X e te) (i : ∀ σ H Q, te' σ H Q → te σ H Q) : PE X e te' := ⟨fun pins s σ H Q I q => h.run pins s σ H Q I (i σ H Q q)⟩
theorem PA.weak {X : Cx} {es : List Expr} {ta ta' : TA} (h : PA X es ta) (i : ∀ σ H Q, ta' σ H Q → ta σ H Q) : PA X es ta' := ⟨fun pos pins s σ H Q I q => h.run pos pins s σ H Q I (i σ H Q q)⟩
theorem same_refl (H : Hp) : Same H H := fun _ _ h => h
section
variable {X : Cx} {e : Expr} {es : List Expr} {d : Dt} {ds : List Dt} {p pos : Pos} {j : Nat}
theorem pe_lstr {m : Str} (h : m.length ≤ 100000 := by decide +kernel) : PE X (.Constant (.str m) j pos) (tLit K C (.str m)) := PE.weak pe_str fun σ H Q q => q _ H (same_refl H) (.str m h)
theorem pe_lint {i : Int} : PE X (.Constant (.int i) j pos) (tLit K C (.int i)) := PE.weak pe_int fun σ H Q q => q _ H (same_refl H) (.int i)
theorem pe_lbl {b : Bool} : PE X (.Constant (.bool b) j pos) (tLit K C (.bl b)) := PE.weak pe_bl fun σ H Q q => q _ H (same_refl H) (.bl b)
theorem pe_lnon : PE X (.Constant .none j pos) (tLit K C .oth) := PE.weak pe_non fun σ H Q q => q _ H (same_refl H) .non
theorem pa_lnil : PA X [] (tLits K C []) := PA.weak pa_nil fun σ H Q q => q [] H (same_refl H) .nil
theorem pa_lcons (he : PE X e (tLit K C d)) (hr : PA X es (tLits K C ds)) (hs : starEach (e :: es) X.env = (false, eval e X.env) :: starEach es X.env := by rfl) : PA X (e :: es) (tLits K C (d :: ds)) :=
  PA.weak (pa_cons he hr hs) fun σ H Q q => fun v H1 s1 t1 vs H2 s2 t2 => q _ H2 (s1.trans s2) (.cons (t1.kd s2.kd) t2)
theorem pe_ltup {x1} (h : PA X es (tLits K C ds)) (hz : ds.length ≤ 100 := by decide) : PE X (.Tuple es x1 pos) (tLit K C (.tup ds)) :=
  PE.weak (pe_tup h) fun σ H Q q => fun vs H1 s1 t1 => ⟨by rw [t1.len]; exact Nat.le_trans hz (by decide), fun p np => q _ _ (s1.trans (same_new np)) (.tup (.inl (.inl upd_same)) (t1.kd (same_new np).kd))⟩
theorem pe_llst (h : PA X es (tLits K C ds)) (hz : ds.length ≤ 100 := by decide) : PE X (.List es pos) (tLit K C .oth) :=
  PE.weak (pe_lst h) fun σ H Q q => fun vs H1 s1 t1 => ⟨by rw [t1.len]; exact Nat.le_trans hz (by decide), fun p np => q _ _ (s1.trans (same_new np)) (.lst upd_same)⟩
theorem pe_ldic : PE X (.Dict [] [] pos) (tLit K C .oth) := PE.weak pe_dnewK fun σ H Q q => fun p np => q _ _ (same_new np) (.dic upd_same)
def repD (n : Nat) (ds : List Dt) : List Dt := (List.replicate n ds).flatten
theorem Tds.rep {H : Hp} {vs : List V} {ds : List Dt} (t : Tds K C H vs ds) : ∀ n, Tds K C H (List.replicate n vs).flatten (repD n ds)
  | 0 => .nil
  | n + 1 => by
    rw [repD, List.replicate_succ, List.replicate_succ, List.flatten_cons, List.flatten_cons]
    exact Tds.app t (Tds.rep t n)
theorem pe_lrep {n : Nat} (h : PE X e (tLit X.K C (.tup ds))) (h0 : ds ≠ [] := by simp) (h2 : 2 ≤ n ∧ n ≤ 1000 ∧ ds.length ≤ 1000 := by decide) : PE X (.BinOp e .Mult (.Constant (.int n) j p) pos) (tLit X.K C (.tup (repD n ds))) :=
  PE.weak (pe_op op_repT h pe_int) fun σ H Q q => fun v H1 s1 t1 => by
    obtain ⟨a, xs, rfl, hS, ht⟩ := Td.tupI t1
    have hl := ht.len
    refine ⟨a, n, xs, rfl, rfl, hS, fun e0 => h0 ?_, by omega, by omega, by omega, fun q0 nq => q _ _ (s1.trans (same_new nq)) (.tup (.inl (.inl upd_same)) ?_)⟩
    · rw [e0] at hl
      exact List.length_eq_zero_iff.mp hl.symm
    · rw [Int.toNat_natCast]
      exact (Tds.rep ht n).kd (same_new nq).kd
end
end
end PM
set_option Elab.async false
set_option linter.all false
set_option maxRecDepth 100000
set_option maxHeartbeats 4000000
/-! Rules of my own: tuples joined and cut (some tuple of these items), == with the empty tuple, list comprehensions over pairs. -/
namespace ZR
open PySem PySem.Spec PyProof.Rows L2 ZX PM RZ
theorem cutV_whole {xs : List V} {lo hi : Option Int} (h : HT.sIx xs.length 0 lo = 0 ∧ HT.sIx xs.length xs.length hi = xs.length) : cutV xs lo hi = xs := by
  unfold cutV
  rw [h.1, h.2]
  simp
section
variable {X : Cx}
/-- t + u: some tuple of these items -/
def rCatZ (K : PySem.W.Frag) : R2 := fun x y H Q => ∃ a b xs ys, x = .ref a ∧ y = .ref b ∧ SqT K H a xs ∧ SqT K H b ys ∧ xs.length + ys.length ≤ sizeLine ∧ ∀ q H', Same H H' → SqT K H' q (xs ++ ys) → Q (.ref q) H'
theorem op_catZ : OpR X (binaryOp .Add) (rCatZ X.K) := by
  intro pins s σ H x y v u Q I rx ry h
  obtain ⟨a, b, xs, ys, rfl, rfl, ha, hb, hz, q⟩ := h
  refine op_catA pins s σ H _ _ v u Q I rx ry ⟨a, b, xs, ys, rfl, rfl, ha, hb, hz, fun e => ?_, fun _ e => ?_, fun _ _ p np => ?_⟩
  · exact q b H (fun _ _ h => h) (by rw [e]; exact hb)
  · exact q a H (fun _ _ h => h) (by rw [e, List.append_nil]; exact ha)
  · exact q p _ (same_new np) (.inl (.inl upd_same))
/-- t[lo:hi]: some tuple of these items -/
def rSlZ (K : PySem.W.Frag) : V → Option Int → Option Int → Hp → VK → Prop := fun x lo hi H Q => ∃ a xs, x = .ref a ∧ SqT K H a xs ∧ ∀ q H', Same H H' → SqT K H' q (cutV xs lo hi) → Q (.ref q) H'
theorem sl_tupZ : L2.SlR X (rSlZ X.K) := by
  intro pins s σ H x v vl vu lo hi sl Q I rx hs pl pu h
  obtain ⟨a, xs, rfl, hx, q⟩ := h
  refine sl_tupA pins s σ H _ v vl vu lo hi sl Q I rx hs pl pu ⟨a, xs, rfl, hx, fun e => ?_, fun _ p np => ?_⟩
  · exact q a H (fun _ _ h => h) (by rw [cutV_whole e]; exact hx)
  · exact q p _ (same_new np) (.inl (.inl upd_same))
/-- t == () -/
def rEqEmp (K : PySem.W.Frag) : R2 := fun x y H Q => ∃ a b xs, x = .ref a ∧ y = .ref b ∧ SqT K H a xs ∧ SqT K H b [] ∧ Q (.bl xs.isEmpty) H
theorem op_eqEmp (hu : X.A.units < cLine) : OpR X (compareOp .Eq) (rEqEmp X.K) := by
  intro pins s σ H x y v u Q I rx ry h
  obtain ⟨a, b, xs, rfl, rfl, ha, hb, q⟩ := h
  cases rx
  cases ry
  obtain ⟨its, r1, p1, _⟩ := I.tuple ha
  obtain ⟨its2, r2, p2, _⟩ := I.tuple hb
  cases r2
  show wpAny (model X.prog X.w) X.A (richCompare .Eq (.ref a) (.ref b)) (EP X pins σ Q) X.xe s
  refine SeqAt.RcAt.tuples (e := fun _ => true) p1 p2 hu (fun j h1 h2 => absurd h2 (Nat.not_lt_zero _)) X.prog X.w _ _ ?_
  have e : ((List.range (min its.toArray.size ([] : List Value).toArray.size)).all (fun _ => true) && its.toArray.size == ([] : List Value).toArray.size) = xs.isEmpty := by
    have hl := r1.length
    cases xs with
    | nil =>
      have : its = [] := List.length_eq_zero_iff.mp hl.symm
      subst this
      rfl
    | cons y ys =>
      cases its with
      | nil => cases hl
      | cons i is => simp
  rw [e]
  exact ⟨.bl _, H, I, rfl, q⟩
end
/-- J walks n turns as long as St holds; each turn gives what Y says -/
structure IterY (J : It) (n : Nat) (St : Hp → Prop) (Y : Nat → V → Hp → Prop) : Prop where
  stop : ∀ H, St H → J.stop n H
  go : ∀ i H, St H → i < n → J.go i H
  yld : ∀ i H v H', St H → i < n → J.yld i H v H' → Same H H' ∧ Y i v H'
theorem it_zipT {K : PySem.W.Frag} {a b : Addr} {xs ys : List V} : IterY (ItzT K a b) (min xs.length ys.length) (fun H => SqT K H a xs ∧ SqT K H b ys) (fun i v H => ∃ T x y, v = .ref T ∧ H T = some (.tup [x, y]) ∧ xs[i]? = some x ∧ ys[i]? = some y) := by
  refine ⟨fun H h => ⟨xs, ys, h.1, h.2, by omega⟩, fun i H h l => ⟨xs, ys, xs[i]'(by omega), ys[i]'(by omega), h.1, h.2, List.getElem?_eq_getElem _, List.getElem?_eq_getElem _⟩, fun i H v H' h l y => ?_⟩
  obtain ⟨T, x, y, rfl, nT, rfl, hx, hy⟩ := y
  exact ⟨same_new nT, T, x, y, rfl, upd_same, hx xs h.1, hy ys h.2⟩
section
variable {J : It} {n : Nat} {St : Hp → Prop} {Y : Nat → V → Hp → Prop} {g : TG} {te : TE} {vs : List Nat} {σ : L2.St} {H1 : Hp} {Q : VK}
theorem lc_overY {α : Type} {as : List α} {Rel : Hp → α → V → Prop} (O : IterY J n St Y) (hz : as.length = n) (hRel : ∀ c y H H', Pt H H' → Rel H c y → Rel H' c y) (hlen : n < sizeLine)
    (st : ∀ H', Same H1 H' → Pt H1 H' → St H')
    (step : ∀ (i : Nat) x c, as[i]? = some c → ∀ H', Same H1 H' → Pt H1 H' → Y i x H' → ∀ R : VK, (∀ y H'', Same H' H'' → Rel H'' c y → R y H'') → g x (wipe σ vs) H' fun σ2 H2 => wipe σ2 vs = wipe σ vs ∧ te σ2 H2 R)
    (fin : ∀ D ys H', Same H1 H' → Pt H1 H' → H1 D = none → H' D = some (.lst ys) → All2 (Rel H') as ys → Q (.ref D) H') :
    tLcS (fun _ _ R => R J H1) g tYes te vs σ H1 Q := by
  rw [lcS]
  intro D hD
  refine ⟨fun i m H => m = n - i ∧ i ≤ n ∧ Same H1 H ∧ Pt H1 H ∧ ∃ ys, H D = some (.lst ys) ∧ All2 (Rel H) (as.take i) ys, ⟨n, rfl, Nat.zero_le _, same_new hD, Pt.new hD, [], upd_same, by rw [List.take_zero]; exact .nil⟩, ?_⟩
  rintro i m H ⟨rfl, hi, sm, pt, ys, hys, all⟩
  have hst := st H sm pt
  by_cases hlt : i < n
  · refine .inr ⟨O.go i H hst hlt, fun H' => i + 1 ≤ n ∧ Same H1 H' ∧ Pt H1 H' ∧ ∃ ys, H' D = some (.lst ys) ∧ All2 (Rel H') (as.take (i + 1)) ys, fun H' h => ⟨n - (i + 1), by omega, rfl, h⟩, fun x H' y => ?_⟩
    obtain ⟨sy, hx⟩ := O.yld i H x H' hst hlt y
    have hia : i < as.length := by omega
    have hc : as[i]? = some as[i] := List.getElem?_eq_getElem hia
    show g x (wipe σ vs) H' fun σ2 H2 => wipe σ2 vs = wipe σ vs ∧ tYes σ2 H2 fun b H3 => if b = true then te σ2 H3 _ else _
    refine step i x as[i] hc H' (sm.trans sy) (pt.trans sy.pt) hx _ fun y H'' s2 r => ?_
    have hD2 := s2 _ _ (sy _ _ hys)
    have pD : Pt H'' (upd H'' D (.lst (ys ++ [y]))) := Pt.lst hD2
    have ptk : as.take (i + 1) = as.take i ++ [as[i]] := by
      rw [List.take_succ, hc]
      rfl
    have hl2 : ys.length < sizeLine := by
      rw [← all.len, List.length_take]
      omega
    refine ⟨ys, hD2, hl2, hlt, ((sm.trans sy).trans s2).put hD, ((pt.trans sy.pt).trans s2.pt).trans pD, ys ++ [y], upd_same, ?_⟩
    rw [ptk]
    exact All2.snoc (hRel _ _ _ _ pD r) (all.imp fun a b q => hRel _ _ _ _ ((sy.pt.trans s2.pt).trans pD) q)
  · have e : i = n := by omega
    subst e
    rw [← hz, List.take_length] at all
    exact .inl ⟨O.stop H hst, fin D ys H sm pt hD hys all⟩
end
end ZR
set_option Elab.async false
set_option linter.all false
set_option maxRecDepth 100000
set_option maxHeartbeats 4000000
/-! enumerate(xs, start=1); *a, b = xs. -/
namespace ZT
open PySem PySem.Spec PyProof.Rows L2 ZX
/-- the list at a as it stands at each turn, each item in a new pair, counted from 1 -/
def It1 (K : PySem.W.Frag) (a : Addr) : It :=
  ⟨fun i H => ∃ ys y, SqL K H a ys ∧ ys[i]? = some y,
   fun i H v H' => ∃ t y, v = .ref t ∧ H t = none ∧ H' = upd H t (.tup [.int ((i + 1 : Nat) : Int), y]) ∧ ∀ ys, SqL K H a ys → ys[i]? = some y,
   fun i H => ∃ ys, SqL K H a ys ∧ ys.length ≤ i⟩
def St1 (a e it : Addr) (i : Nat) (h : Heap) : Prop := (∃ old, IsEnum h e it ((i + 1 : Nat) : Int) old) ∧ h.IsListIter it a i ∧ e ≠ it ∧ a ≠ it ∧ e ≠ a
/-- an iterator that is at its end -/
theorem ends1 {P : Program} {w : World} {A : Around} (hh : A.handled = none) (it a : Addr) (us : Array Value) (n : Nat) (hn : us[n]? = none) : Draws P w A.in1 it [it, a] n (fun _ _ => False) (fun j h => j = n ∧ h.IsListIter it a n ∧ h.IsList a us) where
  live := fun _ h st => by
    obtain ⟨_, ⟨o, ho, _⟩, _⟩ := st
    exact ⟨o, ho⟩
  frame := fun _ h h' st k => ⟨st.1, st.2.1.at fun o q => k it List.mem_cons_self o q, st.2.2.at fun o q => k a (List.mem_cons_of_mem _ List.mem_cons_self) o q⟩
  item := fun j s Q E hj st _ => by
    rw [st.1] at hj
    exact absurd hj (Nat.lt_irrefl n)
  done := fun s Q E st hE => wpAny_nextOf_list_end (A := A.in1) hh st.2.1 st.2.2 hn hE
theorem turn1 {P : Program} {w : World} {K : PySem.W.Frag} {es : List Expr} {kk : Nat} {tp : Pos} (a e it : Addr) : Turn P w K (.Tuple es kk tp) (It1 K a) [e, it] e (St1 a e it) where
  mem := List.mem_cons_self
  obj := fun i h st b hb => by
    obtain ⟨⟨old, he⟩, ⟨o, ho, _, hd⟩, _⟩ := st
    simp only [List.mem_cons, List.not_mem_nil, or_false] at hb
    rcases hb with rfl | rfl
    · exact ⟨_, he, fun v q => by cases q⟩
    · exact ⟨o, ho, fun v q => by rw [hd] at q; cases q⟩
  keep := fun i h h' st k => by
    obtain ⟨⟨old, he⟩, hi, r⟩ := st
    exact ⟨⟨old, k e List.mem_cons_self _ he⟩, hi.at fun o q => k it (List.mem_cons_of_mem _ List.mem_cons_self) o q, r⟩
  item := by
    intro X hP hw hK hc i pins s σ H E I hf st hg
    subst hP hw hK
    obtain ⟨⟨old, he⟩, hit, n1, n2, n3⟩ := st
    obtain ⟨ys, y, hy, hget⟩ := hg
    obtain ⟨us, rv, pl, _⟩ := I.list hy
    obtain ⟨u, hu, ru⟩ := rv.get hget
    have hlen : i < us.toArray.size := by
      rw [List.size_toArray]
      exact (List.getElem?_eq_some_iff.mp hu).1
    have le : e < s.heap.objs.size := Heap.lt_size he
    have li : it < s.heap.objs.size := by
      obtain ⟨_, q, _⟩ := hit
      exact Heap.lt_size q
    refine wpAny_pyNext_enum_itemC (Draws.list (A := X.A.in1) (I.ok.hd hc) it a n2 us.toArray) he ⟨hit, pl.isList⟩ hlen n1 (by simp [n1, n3]) fun x h' tk hx out st' hT hsz hk => ?_
    have ex : x = u := by
      have q : us[i]? = some x := by simpa using hx
      rw [hu] at q
      exact (Option.some.inj q).symm
    subst ex
    refine ⟨_, rfl, wpAny_letOwnedTupleGo_enum (s := { s with heap := h', toks := tk + 1 }) out fun h2 he2 sb => ?_⟩
    have hT2 := (sb.2 _ (Nat.ne_of_gt le)).trans hT
    have I1 : Inv X pins σ (upd H s.heap.objs.size (.tup [.int ((i + 1 : Nat) : Int), y])) { s with heap := h2, toks := tk + 1 } := by
      refine I.turnedNew (ch := [e, it]) (fun b ob hb q => ?_) hf (Nat.le_refl _) ⟨by show 2 ≤ sizeLine; decide, [.int ((i + 1 : Nat) : Int) tk, x], .cons ⟨_, rfl⟩ (.cons ru .nil), ⟨_, hT2, rfl, _, rfl⟩⟩
      simp only [List.mem_cons, List.not_mem_nil, or_false, not_or] at hb
      exact (sb.2 b hb.1).trans (hk b ob hb.1 hb.2 q)
    refine ⟨.ref s.heap.objs.size, _, I1, rfl, ⟨_, y, rfl, I.hok.fresh (Nat.le_refl _), rfl, fun zs hz => by rw [I.list_inj hz hy]; exact hget⟩, ⟨⟨x, ?_⟩, st'.1.at fun o q => (sb.2 it (Ne.symm n1)).trans q, n1, n2, n3⟩, fun b hb => ?_⟩
    · have e1 : ((i + 1 + 1 : Nat) : Int) = ((i + 1 : Nat) : Int) + 1 := by omega
      rw [e1]
      exact he2
    · have hb2 : b < s.heap.objs.size := by
        simp only [List.mem_cons, List.not_mem_nil, or_false] at hb
        rcases hb with rfl | rfl <;> assumption
      rw [upd_ne (Nat.ne_of_lt hb2)]
      exact (hf b hb).1
  done := by
    intro X hP hw hK hc i pins s σ H E I hf st hg
    subst hP hw hK
    obtain ⟨⟨old, he⟩, hit, n1, n2, n3⟩ := st
    obtain ⟨ys, hy, hle⟩ := hg
    obtain ⟨us, rv, pl, _⟩ := I.list hy
    obtain ⟨f0, f1, f2, f3, f4, f5⟩ := hf it (List.mem_cons_of_mem _ List.mem_cons_self)
    have hl := rv.length
    exact wpAny_pyNext_enum_endD (ends1 (I.ok.hd hc) it a us.toArray i (by simp; omega)) he ⟨rfl, hit, pl.isList⟩ fun h' eb => ⟨rfl, I.turned (t' := s.toks) (fun b o hb q => eb b o hb q) f0 f1 f3 f4 f5⟩
  self := fun A i s Q E st h => by
    obtain ⟨⟨_, he⟩, _⟩ := st
    exact wpAny_pyIter_enum he h
/-- enumerate(xs, start=1) -/
def iEn1 (K : PySem.W.Frag) (ta : TA) : TI := fun σ H R => ta σ H fun vs H1 => ∃ a xs, vs = [.ref a] ∧ SqL K H1 a xs ∧ R (It1 K a) H1
theorem with_kw {P : Program} {w : World} {A : Around} {E : Value → Shared → Prop} {s : Shared} {env : Env} {pos kp cp : Pos} {ck : Nat} {T : String} {e : Expr} {x : Str} {i : Int} {Q : Value → Shared → Prop} (he : backTo pos (starEach [e] env) = (false, eval e env) :: backTo pos (starEach [] env))
    (h : wpAny (model P w) A (spliced (backTo pos (starEach [e] env))) (fun us s1 => ∀ tk, wpAny (model P w) A (call (.type T) us [(x, .int i tk)]) Q E { s1 with toks := s1.toks + 1 }) E s) :
    wpAny (model P w) A (callWith pos (.type T) [] (backTo pos (starEach [e] env)) (backToKw pos (keywordEach [⟨some x, .Constant (.int i) ck cp, kp⟩] env))) Q E s := by
  unfold callWith
  refine wpAny_bind (wpAny_holding ?_)
  rw [he] at h ⊢
  refine evalArgs_kwB rfl (wpAny_mono h (fun us s1 h1 => kws_cons (wpAny_Constant_int (kws_nil ?_))) fun _ _ z => z)
  have h2 := h1 s1.toks
  refine wpAny_bind (wpAny_standAt ?_)
  refine wpAny_bind (wpAny_pure ?_)
  exact wpAny_bind (wpAny_mono h2 (fun r s2 hr => wpAny_bind (wpAny_holding (wpAny_point (wpAny_pure hr)))) fun _ _ z => z)
theorem pi_enum1 {X : Cx} {e : Expr} {ta : TA} {p pos tpos cp kp : Pos} {ck : Nat} {es : List Expr} {kk : Nat} (hg : Gl X "enumerate") (hm : X.mg "enumerate" = none) (ha : PA X [e] ta) (hs : backTo pos (starEach [e] X.env) = (false, eval e X.env) :: backTo pos (starEach [] X.env) := by rfl) :
    PI X (.Tuple es kk tpos) (.Call (.Name "enumerate" p) [e] [⟨some "start", .Constant (.int 1) ck cp, kp⟩] pos) (iEn1 X.K ta) := by
  refine ⟨fun pins s σ H R I h => ?_⟩
  refine wpAny_Call_Name_kw (ld_blt I hg hm boot_enumerate ?_)
  refine with_kw hs (thn (ha.run pos pins s σ H _ I h) fun us s1 ⟨vs, H1, I1, r1, q1⟩ tk => ?_)
  obtain ⟨a, xs, ev, hq, q⟩ := q1
  subst ev
  cases r1 with
  | cons ra rr =>
  cases rr
  cases ra
  obtain ⟨its, rv, pl, _⟩ := I1.list hq
  have al : a < s1.heap.objs.size := by
    obtain ⟨_, q, _⟩ := pl.isList
    exact Heap.lt_size q
  refine enum_begins_start (s := { s1 with toks := s1.toks + 1 }) (k := 1) (begins_list a its.toArray) pl.isList (by decide) (by decide) fun h' he hit hsz hk => wpAny_pyIter_enum he ?_
  have I2 : Inv X pins σ H1 { s1 with heap := h', toks := s1.toks + 1 } := I1.kept (t' := s1.toks + 1) hk
  refine ⟨s1.heap.objs.size + 1, [s1.heap.objs.size + 1, s1.heap.objs.size], _, _, H1, rfl, I2, turn1 a (s1.heap.objs.size + 1) s1.heap.objs.size, ⟨⟨.none, he⟩, ⟨_, hit, rfl, rfl⟩, Nat.succ_ne_self _, Nat.ne_of_lt al, fun z => absurd al (by rw [← z]; exact Nat.not_lt.mpr (Nat.le_succ _))⟩, fun b hb => ?_, q⟩
  have hle : s1.heap.objs.size ≤ b := by
    simp only [List.mem_cons, List.not_mem_nil, or_false] at hb
    rcases hb with z | z
    · rw [z]
      exact Nat.le_succ _
    · rw [z]
      exact Nat.le_refl _
  exact I1.fpOk hle (I1.hok.fresh hle)
theorem vals_snoc {y : V} : ∀ {xs : List V} {us : List Value}, Vals (xs ++ [y]) us → ∃ vs v, us = vs ++ [v] ∧ Vals xs vs ∧ RelV y v
  | [], _, .cons r .nil => ⟨[], _, rfl, .nil, r⟩
  | _ :: _, _, .cons r t => by
    obtain ⟨vs, v, rfl, h1, h2⟩ := vals_snoc t
    exact ⟨_ :: vs, v, rfl, .cons r h1, h2⟩
/-- *x, y = xs: what comes to x and y -/
theorem star_items {P : Program} {w : World} {A : Around} {E : Value → Shared → Prop} {s : Shared} {l : Addr} {us : List Value} {u : Value} {Q : List Value → Shared → Prop} (hl : s.heap.IsList l (us ++ [u]).toArray) (hh : A.handled = none) (hz : us.length + 1 ≤ sizeLine)
    (h : ∀ (h2 : Heap) (tk : Nat), (∀ b o, s.heap.get? b = some o → h2.get? b = some o) → Q [.ref h2.objs.size, u] { s with heap := h2.push { cls := .type "list", data := .seq us.toArray }, toks := tk }) : wpAny (model P w) A (unpackItems (.ref l) 2 (some 0)) Q E s := by
  have ne : l ≠ s.heap.objs.size := by
    obtain ⟨o, ho, _⟩ := hl
    exact Nat.ne_of_lt (Heap.lt_size ho)
  have hsz : (us ++ [u]).toArray.size = us.length + 1 := by simp
  unfold unpackItems notIterableAtAll
  refine wpAny_bind (wpAny_bind (wpAny_specialOf hl.typeIs slot_list_iter.lookup (wpAny_pure ?_)))
  rw [if_neg (by simp)]
  refine wpAny_bind (wpAny_holding (wpAny_pyIter_list hl ?_))
  have hp : (s.heap.push { cls := .type "list_iterator", data := .fields #[.ref l, .int 0 0] }).IsListIter s.heap.objs.size l 0 := ⟨_, Heap.get?_push_size _ rfl, rfl, rfl⟩
  have hq := hl.push { cls := .type "list_iterator", data := .fields #[.ref l, .int 0 0] }
  refine wpAny_bind (wpAny_holding (wpAny_pure ?_))
  rw [if_neg (by simp)]
  have hl2 := hq
  obtain ⟨ol, hol, _⟩ := hl2
  have W := Walks.list (prog := P) (w := w) (A := A.in1) hh s.heap.objs.size l ne (us ++ [u]).toArray
  refine wpAny_bind (wpAny_holding (PySem.W.kun_collect (k := 0) (s := { s with heap := s.heap.push _ }) (.inr (.inr (.inl rfl))) W (fun j z st => st.1.typeIs) (Nat.zero_le _) ⟨hp, hq⟩ (by rw [Heap.size_push]; exact Nat.lt_succ_self _) (Heap.lt_size hol) (fun h2 tk hk => ?_) (by rw [hsz]; exact hz)))
  have e0 : (us ++ [u]).toArray.toList.drop 0 = us ++ [u] := by simp
  rw [e0]
  rw [if_neg (by simp)]
  have keep : ∀ b o, s.heap.get? b = some o → h2.get? b = some o := fun b o hb => hk b o (Nat.ne_of_lt (Heap.lt_size hb)) (Heap.get?_push_of_some _ hb)
  have et : (us ++ [u]).take ((us ++ [u]).length - (2 - 1 - 0)) = us := by simp
  have ed : (us ++ [u]).drop ((us ++ [u]).length - (2 - 1 - 0)) = [u] := by simp
  show wpAny _ _ (newList ((us ++ [u]).take ((us ++ [u]).length - (2 - 1 - 0))) >>= fun z => pure ([] ++ [z] ++ (us ++ [u]).drop ((us ++ [u]).length - (2 - 1 - 0)))) _ _ _
  rw [et, ed]
  exact wpAny_bind (wpAny_newList (wpAny_pure (h h2 tk keep)) (by omega))
/-- *x, y = xs -/
def gStar (K : PySem.W.Frag) (t : TGs) : TG := fun v σ H Q => ∃ a xs y, v = .ref a ∧ SqL K H a (xs ++ [y]) ∧ ∀ l, H l = none → t [.ref l, y] σ (upd H l (.lst xs)) Q
theorem pg_star {X : Cx} {e1 e2 : Expr} {sp pos : Pos} {k : Nat} {t : TGs} (hc : X.calm = true) (h : PGs X [e1, e2] t)
    (e0 : (assignEach [.Starred e1 sp, e2] X.env).map (·.2) = (assignEach [e1, e2] X.env).map (·.2) := by rfl) (el : (assignEach [.Starred e1 sp, e2] X.env).length = 2 := by rfl) (ei : (assignEach [.Starred e1 sp, e2] X.env).findIdx? (·.1) = some 0 := by rfl) :
    PG X (.Tuple [.Starred e1 sp, e2] k pos) (gStar X.K t) := by
  refine ⟨fun pins s σ H v u Q I r hw => ?_⟩
  obtain ⟨a, xs, y, rfl, hq, hw⟩ := hw
  cases r
  obtain ⟨its, rv, pl, hz⟩ := I.list hq
  obtain ⟨us, u, rfl, rx, ry⟩ := vals_snoc rv
  have hl := rv.length
  rw [assign_Tuple]
  refine wpAny_bind (wpAny_standAt ?_)
  unfold unpack
  rw [el, ei, e0]
  rw [List.length_append] at hz hl
  refine wpAny_bind (wpAny_holding (star_items pl.isList (I.ok.hd hc) (by rw [← rx.length]; exact hz) fun h2 tk keep => ?_))
  have I1 : Inv X pins σ H { s with heap := h2, toks := tk } := I.kept keep
  have I2 : Inv X pins σ (upd H h2.objs.size (.lst xs)) { s with heap := h2.push { cls := .type "list", data := .seq us.toArray }, toks := tk } :=
    I1.laid (t' := tk) (fun b o e => Heap.get?_push_of_some _ e) (Nat.le_refl _) ⟨Nat.le_trans (Nat.le_add_right _ _) hz, us, 0, rx, Heap.get?_push_size _ rfl⟩
  exact h.run pins _ σ _ [.ref h2.objs.size, y] _ Q I2 (.cons rfl (.cons ry .nil)) (hw _ I1.fresh)
end ZT
set_option Elab.async false
set_option linter.all false
set_option maxRecDepth 100000
set_option maxHeartbeats 4000000
/-! Rows and blocks as texts. -/
namespace PM
open PySem PySem.Spec PyProof.Rows L2 ZX ZR TL
/-- a def keeps either of two promises -/
theorem _root_.L2.FnOk.or {P : Program} {w : World} {K : PySem.W.Frag} {mg : Str → Option Value} {base : Heap} {CX : CXT} {k : Nat} {f : Addr} {fd : FuncData} {ps : List Str} {s1 s2 : Sp} (a : FnOk P w K mg base CX k f fd ps s1) (b : FnOk P w K mg base CX k f fd ps s2) : FnOk P w K mg base CX k f fd ps (fun vs H Q E => s1 vs H Q E ∨ s2 vs H Q E) :=
  ⟨fun vs H Q E h => h.elim (a.1 vs H Q E) (b.1 vs H Q E), fun A outer s H args us vs Q E hr e0 hb r h => h.elim (a.2 A outer s H args us vs Q E hr e0 hb r) (b.2 A outer s H args us vs Q E hr e0 hb r)⟩
theorem callR_or {X : Cx} {f : Value} {r1 r2 : List V → Hp → VK → Prop} (a : CallR X f r1) (b : CallR X f r2) : CallR X f (fun xs H Q => r1 xs H Q ∨ r2 xs H Q) :=
  fun pins s σ H xs us Q I r h => h.elim (a pins s σ H xs us Q I r) (b pins s σ H xs us Q I r)
def numT (i : Int) : Str := Str.ofString (toString i)
/-- a row's text; of an either, an again its head -/
def txtR : Rw → Str
  | .note x o ps => x ++ (" = " : Str) ++ o ++ ("(" : Str) ++ Txt.join (", " : Str) ps ++ (")" : Str)
  | .copy x y => x ++ (" = " : Str) ++ y
  | .give x i => x ++ (" = " : Str) ++ numT i
  | .ask x => ("ask" : Str) ++ (" " : Str) ++ x
  | .prt x => ("print" : Str) ++ (" " : Str) ++ x
  | .either _ _ => "either"
  | .again _ => "again"
/-- so deep in -/
def indS : Nat → Str
  | 0 => Str.empty
  | n + 1 => ("  " : Str) ++ indS n
mutual
def linR : Nat → Rw → List Str
  | d, .either a b => (indS d ++ ("either" : Str)) :: (linB (d + 1) a ++ (indS d ++ ("or" : Str)) :: linB (d + 1) b)
  | d, .again a => (indS d ++ ("again" : Str)) :: linB (d + 1) a
  | d, .note x o ps => [indS d ++ txtR (.note x o ps)]
  | d, .copy x y => [indS d ++ txtR (.copy x y)]
  | d, .give x i => [indS d ++ txtR (.give x i)]
  | d, .ask x => [indS d ++ txtR (.ask x)]
  | d, .prt x => [indS d ++ txtR (.prt x)]
def linB : Nat → List Rw → List Str
  | _, [] => []
  | d, r :: b => linR d r ++ linB d b
end
theorem e_app (x : Str) : Str.empty ++ x = x := ext_tl (by rw [tl_append]; rfl)
theorem app_as (x y z : Str) : (x ++ y) ++ z = x ++ (y ++ z) := ext_tl (by rw [tl_append, tl_append, tl_append, tl_append, List.append_assoc])
mutual
theorem linR_in : ∀ (r : Rw) (d : Nat), (linR d r).map (("  " : Str) ++ ·) = linR (d + 1) r
  | .either a b, d => by
    rw [linR, linR, List.map_cons, List.map_append, List.map_cons, linB_in a, linB_in b, indS, app_as, app_as]
  | .again a, d => by rw [linR, linR, List.map_cons, linB_in a, indS, app_as]
  | .note _ _ _, d => by rw [linR, linR, List.map_singleton, indS, app_as]
  | .copy _ _, d => by rw [linR, linR, List.map_singleton, indS, app_as]
  | .give _ _, d => by rw [linR, linR, List.map_singleton, indS, app_as]
  | .ask _, d => by rw [linR, linR, List.map_singleton, indS, app_as]
  | .prt _, d => by rw [linR, linR, List.map_singleton, indS, app_as]
theorem linB_in : ∀ (b : List Rw) (d : Nat), (linB d b).map (("  " : Str) ++ ·) = linB (d + 1) b
  | [], d => by rw [linB, linB]; rfl
  | r :: b, d => by rw [linB, linB, List.map_append, linR_in r, linB_in b]
end
theorem linB_eq (d : Nat) : ∀ b : List Rw, linB d b = b.flatMap (linR d)
  | [] => by rw [linB]; rfl
  | r :: b => by rw [linB, linB_eq d b]; rfl
end PM
set_option Elab.async false
set_option linter.all false
set_option maxRecDepth 100000
set_option maxHeartbeats 4000000
/-! Calls of defs that may let something out. -/
namespace PM
open PySem PySem.Spec PyProof.Rows L2 ZX ZR
/-- a def that may be called by its name and may let something out -/
structure CalX (P : Program) (w : World) (K : PySem.W.Frag) (mg : Str → Option Value) (base : Heap) (x : Str) (k : Nat) (ps : List Str) (sp : Sp) : Prop where
  ex : ∃ (f : Addr) (fd : FuncData), FnOk P w K mg base (L2.CX P w) k f fd ps sp ∧ mg x = some (.ref f) ∧ PySem.W.keepIn K (.ref f) = true ∧ Binds K fd ps []
section
variable {X : Cx} {e : Expr} {es : List Expr} {t : TA} {x : Str} {p pos : Pos} {k : Nat} {ps : List Str} {sp : Sp}
theorem pcalS {W : WX} (C : CalX X.prog X.w X.K X.mg X.base x k ps sp) (hr : Room k X.A) (tk : Takes X W) (hg : Gl X x) (ha : PA X (e :: es) t)
    (hdb : (x == ("__debug__" : Str)) = false := by decide) (he : starEach (e :: es) X.env = (false, eval e X.env) :: starEach es X.env := by rfl) (hpl : (backTo pos (starEach es X.env)).any (·.1) = false := by rfl) :
    PE X (.Call (.Name x p) (e :: es) [] pos) (tCallS sp (WE W) t) := by
  obtain ⟨f, fd, G, g, kp, b⟩ := C.ex
  exact pe_callS G hr hg g kp b (fun σ => passAt tk σ) ha hdb he hpl
/-- a call that lets nothing out -/
theorem pcalN (C : CalX X.prog X.w X.K X.mg X.base x k ps sp) (hr : Room k X.A) (hg : Gl X x) (ha : PA X (e :: es) t)
    (hdb : (x == ("__debug__" : Str)) = false := by decide) (he : starEach (e :: es) X.env = (false, eval e X.env) :: starEach es X.env := by rfl) (hpl : (backTo pos (starEach es X.env)).any (·.1) = false := by rfl) :
    PE X (.Call (.Name x p) (e :: es) [] pos) (tCall sp [] E0 t) := by
  obtain ⟨f, fd, G, g, kp, b⟩ := C.ex
  refine pe_call G hr hg g kp b .nil (fun pins σ H s e s' I c => ?_) ha hdb he hpl
  obtain ⟨_, _, _, _, _, _, _, _, _, _, _, h⟩ := c
  exact h.2.elim
end
end PM
set_option Elab.async false
set_option linter.all false
set_option maxRecDepth 100000
set_option maxHeartbeats 4000000
/-! Calls that leave defaults out; methods that let nothing out. -/
namespace PM
open PySem PySem.Spec PyProof.Rows L2 ZX ZR
/-- a def that may be called by its name, its last parameters left to their defaults -/
structure CalV (P : Program) (w : World) (K : PySem.W.Frag) (mg : Str → Option Value) (base : Heap) (x : Str) (k : Nat) (ps : List Str) (dvs : List V) (sp : Sp) : Prop where
  ex : ∃ (f : Addr) (fd : FuncData) (ds : List Value), FnOk P w K mg base CX0 k f fd ps sp ∧ mg x = some (.ref f) ∧ PySem.W.keepIn K (.ref f) = true ∧ Binds K fd ps ds ∧ Vals dvs ds
/-- a method of the class at C that lets nothing out -/
structure MCal (P : Program) (w : World) (K : PySem.W.Frag) (mg : Str → Option Value) (base : Heap) (C : Addr) (m : Str) (k : Nat) (ps : List Str) (sp : Sp) : Prop where
  c : Cls K C
  ex : ∃ (f : Addr) (fd : FuncData), FnOk P w K mg base CX0 k f fd ps sp ∧ Meth K C m f ∧ Binds K fd ps []
section
variable {X : Cx} {e o : Expr} {es : List Expr} {t : TA} {ta : TE} {x m : Str} {p pos apos : Pos} {k : Nat} {C : Addr} {ps : List Str} {dvs : List V} {sp : Sp} {pl : Sem Bool}
theorem pcalV (C : CalV X.prog X.w X.K X.mg X.base x k ps dvs sp) (hr : Room k X.A) (hg : Gl X x) (ha : PA X (e :: es) t)
    (hdb : (x == ("__debug__" : Str)) = false := by decide) (he : starEach (e :: es) X.env = (false, eval e X.env) :: starEach es X.env := by rfl) (hpl : (backTo pos (starEach es X.env)).any (·.1) = false := by rfl) :
    PE X (.Call (.Name x p) (e :: es) [] pos) (tCall sp dvs E0 t) := by
  obtain ⟨f, fd, ds, G, g, kp, b, r⟩ := C.ex
  exact pe_call G hr hg g kp b r pass0 ha hdb he hpl
theorem pmc (c : MCal X.prog X.w X.K X.mg X.base C m k ps sp) (hr : Room k X.A) (ho : PE X o ta) (ha : PA X (e :: es) t)
    (hst : starEach (e :: es) X.env = (false, eval e X.env) :: starEach es X.env := by rfl) (hpl : (backTo pos (starEach es X.env)).any (·.1) = false := by rfl)
    (ht : eval (.Call (.Attribute o m apos) (e :: es) [] pos) X.env = (do let ov ← eval o X.env; standAt apos.atName; let (f, first) ← holding [ov] (getMethod ov m pl); callWith pos f first (backTo pos (starEach (e :: es) X.env)) (backToKw pos (keywordEach [] X.env))) := by rfl) : PE X (.Call (.Attribute o m apos) (e :: es) [] pos) (tMeth C m sp [] E0 ta t) := by
  obtain ⟨f, fd, G, mt, b⟩ := c.ex
  exact pe_meth ho c.c mt G hr b .nil pass0 ha hst hpl ht
theorem pmc0 (c : MCal X.prog X.w X.K X.mg X.base C m k ps sp) (hr : Room k X.A) (ho : PE X o ta)
    (ht : eval (.Call (.Attribute o m apos) [] [] pos) X.env = (do let ov ← eval o X.env; standAt apos.atName; let (f, first) ← holding [ov] (getMethod ov m pl); callWith pos f first (backTo pos (starEach [] X.env)) (backToKw pos (keywordEach [] X.env))) := by rfl) : PE X (.Call (.Attribute o m apos) [] [] pos) (tMeth C m sp [] E0 ta tNil) := by
  obtain ⟨f, fd, G, mt, b⟩ := c.ex
  exact pe_meth0 ho c.c mt G hr b .nil pass0 ht
end
end PM
set_option Elab.async false
set_option linter.all false
set_option maxRecDepth 100000
set_option maxHeartbeats 4000000
/-! row_text. -/
namespace PM
open PySem PySem.Spec PyProof.Rows L2 ZX ZR TL
/-- a row without blocks -/
def plainR : Rw → Bool
  | .either _ _ => false
  | .again _ => false
  | _ => true
def smallR : Rw → Prop
  | .give _ i => i.natAbs < 10 ^ 40
  | _ => True
theorem log_small {i : Int} (h : i.natAbs < 10 ^ 40) : i.natAbs.log2 < 1920 := by
  by_cases h0 : i.natAbs = 0
  · rw [h0]; decide
  · rw [Nat.log2_lt h0]
    exact Nat.lt_of_lt_of_le h (by decide)
theorem len_app (x y : Str) : (x ++ y).length = x.length + y.length := by
  rw [len_tl, len_tl x, len_tl y, tl_append, List.length_append]
theorem lnS {n m : Nat} (h : m ≤ n) (hn : n ≤ 1000 := by decide) : m ≤ sizeLine := Nat.le_trans h (Nat.le_trans hn (by decide))
theorem numL_len40 {n : Nat} (h : n < 10 ^ 40) : (numL n).length ≤ 40 := numL_len (by decide) h
theorem tl_numT (i : Int) : tl (numT i) = if 0 ≤ i then numL i.natAbs else 45 :: numL i.natAbs := by
  cases i with
  | ofNat n =>
    rw [if_pos (show (0 : Int) ≤ Int.ofNat n from Int.natCast_nonneg n)]
    exact tl_num n
  | negSucc n =>
    rw [if_neg (by omega)]
    show tl (Str.ofString (toString (Int.negSucc n))) = 45 :: numL (n + 1)
    have e : toString (Int.negSucc n) = "-" ++ toString (n + 1) := rfl
    rw [e, tl_ofString, String.toList_append, List.map_append]
    have e2 := tl_num (n + 1)
    rw [tl_ofString] at e2
    have e3 : toString (((n + 1 : Nat)) : Int) = toString (n + 1) := rfl
    rw [e3] at e2
    rw [e2]
    rfl
theorem numT_len {i : Int} (h : i.natAbs < 10 ^ 40) : (numT i).length ≤ 41 := by
  rw [len_tl, tl_numT]
  have := numL_len40 h
  split
  · omega
  · rw [List.length_cons]; omega
mutual
theorem okR_mono : ∀ {d e : Nat} (r : Rw), e ≤ d → okR d r → okR e r
  | d, e, .either a b, h, ok => by
    obtain ⟨h1, h2, h3, h4, h5⟩ := ok
    exact ⟨by omega, h2, h3, okB_mono a (by omega) h4, okB_mono b (by omega) h5⟩
  | d, e, .again a, h, ok => by
    obtain ⟨h1, h2, h4⟩ := ok
    exact ⟨by omega, h2, okB_mono a (by omega) h4⟩
  | d, e, .note _ _ _, h, ok => ok
  | d, e, .copy _ _, h, ok => ok
  | d, e, .give _ _, h, ok => ok
  | d, e, .ask _, h, ok => ok
  | d, e, .prt _, h, ok => ok
theorem okB_mono : ∀ {d e : Nat} (b : List Rw), e ≤ d → okB d b → okB e b
  | d, e, [], h, ok => ok
  | d, e, r :: b, h, ok => ⟨okR_mono r h ok.1, okB_mono b h ok.2⟩
end
theorem jn_len (y : Str) (ps : List Str) : (Txt.join y ps).length ≤ (ps.map (·.length)).sum + ps.length * y.length := by
  rw [join_eq, len_tl, tl_join]
  induction ps with
  | nil => exact Nat.zero_le _
  | cons p ps ih =>
    cases ps with
    | nil =>
      show (tl p).length ≤ _
      rw [List.map_cons, List.sum_cons, ← len_tl]
      omega
    | cons q qs =>
      show (tl p ++ (tl y ++ joinL (tl y) ((q :: qs).map tl))).length ≤ _
      rw [List.length_append, List.length_append, ← len_tl, ← len_tl, List.length_cons, Nat.succ_mul]
      have e : ((p :: q :: qs).map (·.length)).sum = p.length + ((q :: qs).map (·.length)).sum := rfl
      have e2 : (joinL (tl y) (tl q :: qs.map tl)).length ≤ ((q :: qs).map (·.length)).sum + (q :: qs).length * y.length := ih
      rw [e]
      omega
theorem names_sum : ∀ {ps : List Str}, (∀ y ∈ ps, NameOk y) → (ps.map (·.length)).sum ≤ ps.length * 8
  | [], _ => Nat.le_refl _
  | p :: ps, h => by
    have h1 := (h p List.mem_cons_self).2.1
    have h2 := names_sum fun y hy => h y (List.mem_cons_of_mem _ hy)
    rw [List.map_cons, List.sum_cons, List.length_cons, Nat.succ_mul]
    omega
end PM
set_option Elab.async false
set_option linter.all false
set_option maxRecDepth 100000
set_option maxHeartbeats 4000000
/-! A comprehension whose items are new objects. -/
namespace PM
open PySem PySem.Spec PyProof.Rows L2 ZX ZR
section
variable {J : It} {zs : List V} {St : Hp → Prop} {g : TG} {te : TE} {vs : List Nat} {σ : L2.St} {H1 : Hp} {Q : VK}
/-- as lc_overA; what Rel tells of an item stands as long as all but the list in the making stands -/
theorem lc_overL {α : Type} {as : List α} {Rel : Addr → Hp → α → V → Prop} (O : IterOf J zs St) (hz : as.length = zs.length) (hRel : ∀ D c y H H', (∀ b o, b ≠ D → H b = some o → H' b = some o) → Rel D H c y → Rel D H' c y) (hlen : zs.length < sizeLine)
    (st : ∀ H', Same H1 H' → St H')
    (step : ∀ D, H1 D = none → ∀ (i : Nat) x c, zs[i]? = some x → as[i]? = some c → ∀ H', Same H1 H' → (∃ ws, H' D = some (.lst ws)) → ∀ R : VK, (∀ y H'', Same H' H'' → Rel D H'' c y → R y H'') → g x (wipe σ vs) H' fun σ2 H2 => wipe σ2 vs = wipe σ vs ∧ te σ2 H2 R)
    (fin : ∀ D ys H', Same H1 H' → H1 D = none → H' D = some (.lst ys) → All2 (Rel D H') as ys → Q (.ref D) H') :
    tLcS (fun _ _ R => R J H1) g tYes te vs σ H1 Q := by
  rw [lcS]
  intro D hD
  refine ⟨fun i m H => m = zs.length - i ∧ i ≤ zs.length ∧ Same H1 H ∧ ∃ ys, H D = some (.lst ys) ∧ All2 (Rel D H) (as.take i) ys, ⟨zs.length, rfl, Nat.zero_le _, same_new hD, [], upd_same, by rw [List.take_zero]; exact .nil⟩, ?_⟩
  rintro i m H ⟨rfl, hi, sm, ys, hys, all⟩
  have hst := st H sm
  by_cases hlt : i < zs.length
  · refine .inr ⟨O.go i H hst hlt, fun H' => i + 1 ≤ zs.length ∧ Same H1 H' ∧ ∃ ys, H' D = some (.lst ys) ∧ All2 (Rel D H') (as.take (i + 1)) ys, fun H' h => ⟨zs.length - (i + 1), by omega, rfl, h⟩, fun x H' y => ?_⟩
    obtain ⟨rfl, hx⟩ := O.yld i H x H' hst hlt y
    have hia : i < as.length := by omega
    have hc : as[i]? = some as[i] := List.getElem?_eq_getElem hia
    show g x (wipe σ vs) H' fun σ2 H2 => wipe σ2 vs = wipe σ vs ∧ tYes σ2 H2 fun b H3 => if b = true then te σ2 H3 _ else _
    refine step D hD i x as[i] hx hc H' sm ⟨_, hys⟩ _ fun y H'' s2 r => ?_
    have hD2 := s2 D _ hys
    have ptk : as.take (i + 1) = as.take i ++ [as[i]] := by
      rw [List.take_succ, hc]
      rfl
    have hl2 : ys.length < sizeLine := by
      rw [← all.len, List.length_take]
      omega
    have up : ∀ b o, b ≠ D → H'' b = some o → upd H'' D (.lst (ys ++ [y])) b = some o := fun b o n e => by
      rw [upd_ne n]
      exact e
    refine ⟨ys, hD2, hl2, hlt, (sm.trans s2).put hD, ys ++ [y], upd_same, ?_⟩
    rw [ptk]
    exact All2.snoc (hRel _ _ _ _ _ up r) (all.imp fun a b q => hRel _ _ _ _ _ (fun b o n e => up b o n (s2 _ _ e)) q)
  · have e : i = zs.length := by omega
    subst e
    rw [← hz, List.take_length] at all
    exact .inl ⟨O.stop H hst, fin D ys H sm hD hys all⟩
end
end PM
set_option Elab.async false
set_option linter.all false
set_option maxRecDepth 100000
set_option maxHeartbeats 4000000
/-! block_lines, program_text. -/
namespace PM
open PySem PySem.Spec PyProof.Rows L2 ZX ZR TL
theorem lnB {n m : Nat} (h : m ≤ n) (hn : n ≤ 100000 := by decide) : m ≤ sizeLine := Nat.le_trans h (Nat.le_trans hn (by decide))
theorem flat_le {α β : Type} {f : α → List β} {x : α} : ∀ {l : List α}, x ∈ l → (f x).length ≤ (l.flatMap f).length
  | y :: l, h => by
    rw [List.flatMap_cons, List.length_append]
    rcases List.mem_cons.mp h with rfl | h
    · exact Nat.le_add_right _ _
    · exact Nat.le_trans (flat_le h) (Nat.le_add_left _ _)
theorem ind_len : ∀ d : Nat, (indS d).length = 2 * d
  | 0 => rfl
  | d + 1 => by
    have h2 : ("  " : Str).length = 2 := by decide +kernel
    rw [indS, len_app, ind_len d, h2]
    omega
theorem txt_len : ∀ {e : Nat} (r : Rw), okR e r → smallR r → (txtR r).length ≤ 60
  | e, .note x o ps, ok, _ => by
    obtain ⟨n1, n2, l3, n3⟩ := ok
    have h1 := n1.2.1
    have h2 := n2.2.1
    have hj := jn_len (", " : Str) ps
    have hps := names_sum n3
    have hc : (", " : Str).length = 2 := by decide +kernel
    have he : (" = " : Str).length = 3 := by decide +kernel
    have hp : ("(" : Str).length = 1 := by decide +kernel
    have hq : (")" : Str).length = 1 := by decide +kernel
    rw [hc] at hj
    rw [txtR, len_app, len_app, len_app, len_app, len_app, he, hp, hq]
    omega
  | e, .copy x y, ok, _ => by
    have h1 := ok.1.2.1
    have h2 := ok.2.2.1
    have he : (" = " : Str).length = 3 := by decide +kernel
    rw [txtR, len_app, len_app, he]
    omega
  | e, .give x i, ok, sm => by
    have n1 : NameOk x := ok
    have h1 := n1.2.1
    have h2 := numT_len (show i.natAbs < 10 ^ 40 from sm)
    have he : (" = " : Str).length = 3 := by decide +kernel
    rw [txtR, len_app, len_app, he]
    omega
  | e, .ask x, ok, _ => by
    have n1 : NameOk x := ok
    have h1 := n1.2.1
    have hw : ("ask" : Str).length = 3 := by decide +kernel
    have hb : (" " : Str).length = 1 := by decide +kernel
    rw [txtR, len_app, len_app, hw, hb]
    omega
  | e, .prt x, ok, _ => by
    have n1 : NameOk x := ok
    have h1 := n1.2.1
    have hw : ("print" : Str).length = 5 := by decide +kernel
    have hb : (" " : Str).length = 1 := by decide +kernel
    rw [txtR, len_app, len_app, hw, hb]
    omega
  | e, .either _ _, _, _ => by
    have hw : ("either" : Str).length = 6 := by decide +kernel
    rw [txtR, hw]
    omega
  | e, .again _, _, _ => by
    have hw : ("again" : Str).length = 5 := by decide +kernel
    rw [txtR, hw]
    omega
mutual
theorem linR_len : ∀ {e : Nat} (r : Rw) (d : Nat), okR e r → (∀ q ∈ rowsR r, smallR q) → ∀ t ∈ linR d r, t.length ≤ 2 * (d + depR r) + 60
  | e, .either a b, d, ok, sm, t, h => by
    have hd : depR (.either a b) = max (depB a) (depB b) + 1 := rfl
    obtain ⟨_, _, _, o1, o2⟩ := ok
    rw [linR] at h
    rcases List.mem_cons.mp h with rfl | h
    · have hw : ("either" : Str).length = 6 := by decide +kernel
      rw [len_app, ind_len, hw]
      omega
    · rcases List.mem_append.mp h with h | h
      · have := linB_len a (d + 1) o1 (fun q hq => sm q (by rw [rowsR]; exact List.mem_cons_of_mem _ (List.mem_append_left _ hq))) t h
        omega
      · rcases List.mem_cons.mp h with rfl | h
        · have hw : ("or" : Str).length = 2 := by decide +kernel
          rw [len_app, ind_len, hw]
          omega
        · have := linB_len b (d + 1) o2 (fun q hq => sm q (by rw [rowsR]; exact List.mem_cons_of_mem _ (List.mem_append_right _ hq))) t h
          omega
  | e, .again a, d, ok, sm, t, h => by
    have hd : depR (.again a) = depB a + 1 := rfl
    obtain ⟨_, _, o1⟩ := ok
    rw [linR] at h
    rcases List.mem_cons.mp h with rfl | h
    · have hw : ("again" : Str).length = 5 := by decide +kernel
      rw [len_app, ind_len, hw]
      omega
    · have := linB_len a (d + 1) o1 (fun q hq => sm q (by rw [rowsR]; exact List.mem_cons_of_mem _ hq)) t h
      omega
  | e, .note x o ps, d, ok, sm, t, h => by
    have := txt_len _ ok (sm _ List.mem_cons_self)
    rw [linR] at h
    rw [List.mem_singleton.mp h, len_app, ind_len]
    omega
  | e, .copy x o, d, ok, sm, t, h => by
    have := txt_len _ ok (sm _ List.mem_cons_self)
    rw [linR] at h
    rw [List.mem_singleton.mp h, len_app, ind_len]
    omega
  | e, .give x o, d, ok, sm, t, h => by
    have := txt_len (.give x o) ok (sm _ List.mem_cons_self)
    rw [linR] at h
    rw [List.mem_singleton.mp h, len_app, ind_len]
    omega
  | e, .ask x, d, ok, sm, t, h => by
    have := txt_len (.ask x) ok (sm _ List.mem_cons_self)
    rw [linR] at h
    rw [List.mem_singleton.mp h, len_app, ind_len]
    omega
  | e, .prt x, d, ok, sm, t, h => by
    have := txt_len (.prt x) ok (sm _ List.mem_cons_self)
    rw [linR] at h
    rw [List.mem_singleton.mp h, len_app, ind_len]
    omega
theorem linB_len : ∀ {e : Nat} (b : List Rw) (d : Nat), okB e b → (∀ q ∈ rowsB b, smallR q) → ∀ t ∈ linB d b, t.length ≤ 2 * (d + depB b) + 60
  | e, [], d, ok, sm, t, h => by
    rw [linB] at h
    cases h
  | e, r :: b, d, ok, sm, t, h => by
    have hd : depB (r :: b) = max (depR r) (depB b) := rfl
    rw [linB] at h
    rcases List.mem_append.mp h with h | h
    · have := linR_len r d ok.1 (fun q hq => sm q (by rw [rowsB]; exact List.mem_append_left _ hq)) t h
      omega
    · have := linB_len b d ok.2 (fun q hq => sm q (by rw [rowsB]; exact List.mem_append_right _ hq)) t h
      omega
end
mutual
theorem linR_many : ∀ (r : Rw) (d : Nat), (linR d r).length ≤ 2 * (rowsR r).length
  | .either a b, d => by
    have h1 := linB_many a (d + 1)
    have h2 := linB_many b (d + 1)
    rw [linR, rowsR, List.length_cons, List.length_append, List.length_cons, List.length_cons, List.length_append]
    omega
  | .again a, d => by
    have h1 := linB_many a (d + 1)
    rw [linR, rowsR, List.length_cons, List.length_cons]
    omega
  | .note _ _ _, d => by rw [linR, rowsR]; exact Nat.le_succ _
  | .copy _ _, d => by rw [linR, rowsR]; exact Nat.le_succ _
  | .give _ _, d => by rw [linR, rowsR]; exact Nat.le_succ _
  | .ask _, d => by rw [linR, rowsR]; exact Nat.le_succ _
  | .prt _, d => by rw [linR, rowsR]; exact Nat.le_succ _
theorem linB_many : ∀ (b : List Rw) (d : Nat), (linB d b).length ≤ 2 * (rowsB b).length
  | [], d => by rw [linB]; exact Nat.zero_le _
  | r :: b, d => by
    have h1 := linR_many r d
    have h2 := linB_many b d
    rw [linB, rowsB, List.length_append, List.length_append]
    omega
end
theorem rows_mem {r : Rw} {b : List Rw} (h : r ∈ b) {q : Rw} (hq : q ∈ rowsR r) : q ∈ rowsB b := by
  rw [rowsB_eq]
  exact List.mem_flatMap.mpr ⟨r, h, hq⟩
theorem rows_inner {r : Rw} {c : List Rw} (h : c ∈ inner r) {q : Rw} (hq : q ∈ rowsB c) : q ∈ rowsR r := by
  rw [rowsR_eq]
  exact List.mem_cons_of_mem _ (List.mem_flatMap.mpr ⟨c, h, hq⟩)
theorem rows_lenR {r : Rw} {b : List Rw} (h : r ∈ b) : (rowsR r).length ≤ (rowsB b).length := by
  rw [rowsB_eq]
  exact flat_le h
theorem rows_lenI {r : Rw} {c : List Rw} (h : c ∈ inner r) : (rowsB c).length ≤ (rowsR r).length := by
  rw [rowsR_eq, List.length_cons]
  exact Nat.le_succ_of_le (flat_le h)
end PM
set_option Elab.async false
set_option linter.all false
set_option maxRecDepth 100000
set_option maxHeartbeats 4000000
/-! program_text. -/
namespace PM
open PySem PySem.Spec PyProof.Rows L2 ZX ZR TL
def lfS : Str := ("\n" : Str)
/-- a block's text -/
def progT (b : List Rw) : Str := Txt.join ("" : Str) ((linB 0 b).map fun t => t ++ lfS)
end PM
set_option Elab.async false
set_option linter.all false
set_option maxRecDepth 100000
set_option maxHeartbeats 4000000
/-! Texts of numbers. -/
namespace PM
open PySem PySem.Spec PyProof.Rows L2 ZX ZR TL
def digC (c : Nat) : Bool := decide (48 ≤ c) && decide (c ≤ 57)
/-- a number's text, of so many digits at most -/
def numB (m : Nat) (x : Str) : Bool := decide (1 ≤ x.length) && (decide (x.length ≤ m) && ((tl x).map digC).all id && ((tl x).head? != some 48 || x == ("0" : Str)))
def intB (x : Str) : Bool := (x != ("-0" : Str)) && numB 30 (Txt.removeprefix x ("-" : Str))
theorem sub_pre (x y : Str) : Builtin.Str.subAt x y 0 = pre (tl y) (tl x) := by
  unfold Builtin.Str.subAt pre
  have e : (x.cps.extract 0 (0 + y.length)).toList = (tl x).take (tl y).length := by
    rw [Array.toList_extract, Nat.zero_add, len_tl]
    simp [tl, List.extract]
  rw [← e]
  rw [Bool.eq_iff_iff]
  simp only [beq_iff_eq]
  constructor
  · intro h
    rw [h]
  · intro h
    exact Array.toList_inj.mp h
theorem rp_or (x y : Str) : (pre (tl y) (tl x) = true ∧ tl (Txt.removeprefix x y) = (tl x).drop (tl y).length) ∨ (pre (tl y) (tl x) = false ∧ Txt.removeprefix x y = x) := by
  unfold Txt.removeprefix
  rw [sub_pre]
  cases h : pre (tl y) (tl x) with
  | false => exact .inr ⟨rfl, rfl⟩
  | true =>
    refine .inl ⟨rfl, ?_⟩
    rw [if_pos rfl]
    show tl (if x.length - y.length == x.length then x else Builtin.Str.strSub x y.length x.length) = _
    rw [← len_tl y]
    split
    · rename_i h2
      have h3 : x.length - y.length = x.length := by simpa using h2
      by_cases hx : x.length = 0
      · have : tl x = [] := by
          rw [len_tl] at hx
          exact List.length_eq_zero_iff.mp hx
        rw [this, List.drop_nil]
      · have : y.length = 0 := by omega
        rw [this, List.drop_zero]
    · exact tl_strSub_end x y.length
theorem rp_len (x y : Str) : (Txt.removeprefix x y).length ≤ x.length := by
  rcases rp_or x y with ⟨_, h⟩ | ⟨_, h⟩
  · rw [len_tl, h, List.length_drop, len_tl x]
    exact Nat.sub_le _ _
  · rw [h]
    exact Nat.le_refl _
theorem dig_in (c : Nat) : decide (c ∈ (Str.ofString "0123456789").cps.toList) = digC c := by
  have e : (Str.ofString "0123456789").cps.toList = [48, 49, 50, 51, 52, 53, 54, 55, 56, 57] := by decide +kernel
  rw [e]
  unfold digC
  by_cases h : 48 ≤ c ∧ c ≤ 57
  · rw [decide_eq_true h.1, decide_eq_true h.2, decide_eq_true]
    · rfl
    · simp only [List.mem_cons, List.not_mem_nil, or_false]
      omega
  · rw [decide_eq_false (p := c ∈ _)]
    · by_cases h1 : 48 ≤ c
      · rw [decide_eq_true h1, decide_eq_false (fun h2 => h ⟨h1, h2⟩)]
        rfl
      · rw [decide_eq_false h1]
        rfl
    · simp only [List.mem_cons, List.not_mem_nil, or_false]
      omega
end PM
namespace K05
open PySem PySem.Spec PyProof.Rows L2 ZX PM ZR TL
abbrev sIs_number_text : Stmt := top 31
abbrev sIs_integer_text : Stmt := top 32
def spNumT : Sp := fun vs H Q _ => ∃ (m : Nat) (x : Str), vs = [.int m, .str x] ∧ x.length ≤ 100000 ∧ ∀ H', Same H H' → Q (.bl (numB m x)) H'
def spIntT : Sp := fun vs H Q _ => ∃ (x : Str), vs = [.str x] ∧ x.length ≤ 100000 ∧ ∀ H', Same H H' → Q (.bl (intB x)) H'
section
variable {P : Program} {w : World} {K : PySem.W.Frag} {mg : Str → Option Value} {base : Heap}
theorem scIs_number_text : FnScope ["most", "text", "sign"] ["most", "text"] (defScope sIs_number_text) := ⟨rfl, rfl, rfl, by decide +kernel, rfl, by decide +kernel, by decide +kernel⟩
theorem ok_number_text {f : Addr} {fd : FuncData} (F : FnP K "is_number_text" sIs_number_text f fd) (T : Bi mg) (mD : ∃ t, mg "DIGITS" = some (.str "0123456789" t)) : FnOk P w K mg base CX0 1 f fd ["most", "text"] spNumT := by
  refine F.ok scIs_number_text (fun vs H Q E h => ?_) (fun cdv A outer s H vs Q E hr h => ?_)
  · obtain ⟨m, x, rfl, _⟩ := h
    rfl
  · obtain ⟨m, x, rfl, hx, k⟩ := h
    obtain ⟨tD, m_DIGITS⟩ := mD
    refine ⟨_, PSs.nox (pss_cons (ps_if (PW.pt (pw_or (pt_not (pt_chain op_le op_le pe_int (pe_callB call_len_str (by rfl) T.b_len (by decide +kernel) (pa_cons (pv 1) pa_nil)) (pv 0))) (pw_or1 (pt_not (pt_val (pe_callB (cr_all rfl) (by rfl) T.b_all (by decide +kernel) (pa_cons (pe_lcS (own := [("sign", 2)]) (g := gName 2) (tt := tYes) (by rfl) scIs_number_text.nd (pi_str (pv 1)) (blkOk_by (N := ["most", "text", "sign"]) (sc := defScope sIs_number_text) (by decide +kernel)) (fun _ _ _ _ _ => (pg_name (i := 2) scIs_number_text.nd rfl (Or.inl rfl))) (fun _ _ _ _ _ => pts_nil) (fun _ _ _ _ _ => (pe_cmpR op_in_sign (pv 2) (pe_glob (v := .str _) rfl m_DIGITS ⟨_, rfl⟩) (by rfl)))) pa_nil))))))) (pss_one (ps_ret pe_bl)) pss_nil)
    (pss_one (ps_ret (pe_or (pe_cmpR op_ne (pe_ix ix_str (pv 1) pe_int (fun _ _ => rfl)) pe_str (nomark _)) (pe_one (pe_cmpR op_eq (pv 1) pe_str (nomark _))))))), ?_⟩
    have hz : x.length ≤ sizeLine := lnB hx
    have k0 : numB m x = false → Q (.bl false) H := fun e => by
      have := k H fun _ _ h => h
      rw [e] at this
      exact this
    refine ⟨_, rfl, _, rfl, hz, _, _, rfl, rfl, _, rfl, ?_⟩
    by_cases h1 : 1 ≤ x.length
    rotate_left
    · refine ifDF (by omega) ⟨_, rfl, k0 ?_⟩
      unfold numB
      rw [decide_eq_false h1, Bool.false_and]
    refine ifD (by omega) ⟨_, rfl, _, _, rfl, rfl, _, rfl, ?_⟩
    by_cases h2 : x.length ≤ m
    rotate_left
    · rw [decide_eq_false (show ¬ (x.length : Int) ≤ (m : Int) by omega)]
      refine k0 ?_
      unfold numB
      rw [decide_eq_true h1, decide_eq_false h2, Bool.true_and]
      rfl
    rw [decide_eq_true (show (x.length : Int) ≤ (m : Int) by omega)]
    refine lc_into ?_
    refine ⟨_, rfl, _, rfl, ?_⟩
    refine lc_overA (p := none) (as := tl x) (Rel := fun _ c y => y = .bl (digC c)) it_str ?_ (fun _ _ _ _ _ h => h) (fun _ h => nomatch h) ?_ (fun _ _ _ => trivial) ?_ ?_
    · rw [letters_len]
      show x.cps.toList.length = _
      rw [Array.length_toList]
    · rw [letters_len]
      exact Nat.lt_of_le_of_lt hx (by decide)
    · intro i z c hzz hc H' _ _ R kk
      have ez : z = .str ⟨#[c]⟩ := by
        rw [letters, List.getElem?_map] at hzz
        have hc' : x.cps.toList[i]? = some c := hc
        rw [hc'] at hzz
        exact (Option.some.inj hzz).symm
      subst ez
      refine ⟨rfl, _, rfl, c, _, rfl, rfl, ?_⟩
      rw [dig_in]
      exact kk _ _ Kq.refl (Pt.refl _) rfl
    · intro D ys H' kq _ _ hD all
      have e := All2.map all
      subst e
      refine ⟨D, (tl x).map digC, rfl, SqL.of (by rw [hD, List.map_map]; rfl), ?_⟩
      have k' := k H' kq.same
      have en : numB m x = (((tl x).map digC).all id && ((tl x).head? != some 48 || x == ("0" : Str))) := by
        unfold numB
        rw [decide_eq_true h1, decide_eq_true h2, Bool.true_and, Bool.true_and]
      rw [en] at k'
      refine ⟨_, rfl, ?_⟩
      cases hd : ((tl x).map digC).all id with
      | false =>
        rw [hd, Bool.false_and] at k'
        exact k'
      | true =>
        rw [hd, Bool.true_and] at k'
        obtain ⟨c, cs, hcs⟩ : ∃ c cs, tl x = c :: cs := by
          cases e : tl x with
          | nil =>
            rw [len_tl, e] at h1
            exact absurd h1 (by decide)
          | cons c cs => exact ⟨c, cs, rfl⟩
        rw [hcs] at k'
        have hci : x.cps.toList = c :: cs := hcs
        refine ⟨_, rfl, _, _, c, rfl, rfl, hz, by rw [hci]; exact atI_nat (j := 0) rfl, ?_⟩
        have e0 : (Str.ofString "0") = (⟨#[48]⟩ : Str) := by decide +kernel
        refine ⟨rfl, _, rfl, ?_⟩
        by_cases hc : c = 48
        · subst hc
          have ed : decide (V.str ⟨#[48]⟩ = V.str (Str.ofString "0")) = true := decide_eq_true (by rw [e0])
          refine ifBF (by rw [ed]; rfl) ⟨_, rfl, rfl, ?_⟩
          rw [dec_str]
          exact k'
        · have ed : decide (V.str ⟨#[c]⟩ = V.str (Str.ofString "0")) = false := decide_eq_false fun e => hc (by
            rw [e0] at e
            have := congrArg (fun v => match v with | V.str z => z.cps.toList | _ => []) e
            simpa using this)
          have e48 : ((c :: cs).head? != some 48) = true := by
            simp [hc]
          rw [e48, Bool.true_or] at k'
          exact ifB (by rw [ed]; rfl) k'
theorem scIs_integer_text : FnScope ["text"] ["text"] (defScope sIs_integer_text) := ⟨rfl, rfl, rfl, by decide +kernel, rfl, by decide +kernel, by decide +kernel⟩
theorem ok_integer_text {f : Addr} {fd : FuncData} (F : FnP K "is_integer_text" sIs_integer_text f fd) (T : Bi mg) (m30 : ∃ t, mg "MOST_DIGITS" = some (.int 30 t)) (C_num : Cal P w K mg base "is_number_text" 1 ["most", "text"] spNumT) : FnOk P w K mg base CX0 2 f fd ["text"] spIntT := by
  refine F.ok scIs_integer_text (fun vs H Q E h => ?_) (fun cdv A outer s H vs Q E hr h => ?_)
  · obtain ⟨x, rfl, _⟩ := h
    rfl
  · obtain ⟨x, rfl, hx, k⟩ := h
    obtain ⟨t30, m_MOST_DIGITS⟩ := m30
    refine ⟨_, PSs.nox (pss_one (ps_ret (pe_and (pe_cmpR op_ne (pv 0) pe_str (nomark _)) (pe_one (pcal C_num hr rfl (pa_cons (pe_glob (v := .int _) rfl m_MOST_DIGITS ⟨_, rfl⟩) (pa_cons (pe_m1 PySem.F.slot_str_removeprefix PySem.F.type_str_removeprefix mt_removeprefix (pv 0) pe_str) pa_nil))))))), ?_⟩
    refine ⟨_, rfl, rfl, _, rfl, ?_⟩
    have e1 : (x != ("-0" : Str)) = !decide (V.str x = V.str (Str.ofString "-0")) := by
      rw [dec_str]
      rfl
    by_cases h0 : (x != ("-0" : Str)) = true
    · refine ifB (by rw [← e1]; exact h0) ⟨_, rfl, ⟨_, rfl⟩, x, _, rfl, rfl, lnB hx, 30, _, rfl, ?_, fun H' sm => ?_⟩
      · exact Nat.le_trans (rp_len _ _) hx
      · have := k H' sm
        unfold intB at this
        rw [h0, Bool.true_and] at this
        exact this
    · have h0' := Bool.eq_false_iff.mpr h0
      refine ifBF (by rw [← e1]; exact h0') ?_
      have := k H fun _ _ h => h
      unfold intB at this
      rw [h0', Bool.false_and] at this
      exact this
end
end K05
set_option Elab.async false
set_option linter.all false
set_option maxRecDepth 100000
set_option maxHeartbeats 4000000
/-! read_note. -/
namespace PM
open PySem PySem.Spec PyProof.Rows L2 ZX ZR TL
def partsT (t : Str) : List Str := if t = (")" : Str) then [] else Txt.split (cutS t none (some (-1))) (", " : Str)
/-- a note's text behind the =, read -/
def noteOf (n t : Str) : Option Rw :=
  if nameB (Txt.partition t ("(" : Str)).1 && Txt.endswith (Txt.partition t ("(" : Str)).2.2 (")" : Str) then
    (if decide ((partsT (Txt.partition t ("(" : Str)).2.2).length ≤ 3) && ((partsT (Txt.partition t ("(" : Str)).2.2).map nameB).all id then some (.note n (Txt.partition t ("(" : Str)).1 (partsT (Txt.partition t ("(" : Str)).2.2)) else none)
  else none
/-- a row or None -/
def OptR (K : PySem.W.Frag) (H : Hp) (v : V) : Option Rw → Prop
  | none => v = .non
  | some r => RV K H v r
theorem sub_len (x : Str) (i j : Nat) : (Builtin.Str.strSub x i j).length ≤ x.length := by
  rw [len_tl, tl_strSub, List.length_take, List.length_drop, len_tl x]
  omega
theorem part1_len (x y : Str) : (Txt.partition x y).1.length ≤ x.length := by
  unfold Txt.partition
  split
  · exact sub_len _ _ _
  · exact Nat.le_refl _
theorem part3_len (x y : Str) : (Txt.partition x y).2.2.length ≤ x.length := by
  unfold Txt.partition
  split
  · exact sub_len _ _ _
  · exact Nat.zero_le _
theorem spl_len (S : List Nat) : ∀ (L : List Nat) (k : Nat) (acc p : List Nat), p ∈ spl S k acc L → p.length ≤ acc.length + L.length
  | [], k, acc, p, h => by
    rw [spl_nil] at h
    rw [List.mem_singleton.mp h]
    exact Nat.le_add_right _ _
  | c :: r, 0, acc, p, h => by
    cases hp : pre S (c :: r) with
    | true =>
      rw [spl_hit hp] at h
      rcases List.mem_cons.mp h with rfl | h
      · exact Nat.le_add_right _ _
      · have := spl_len S r _ _ p h
        rw [List.length_nil] at this
        rw [List.length_cons]
        omega
    | false =>
      rw [spl_miss hp] at h
      have := spl_len S r _ _ p h
      rw [List.length_append, List.length_singleton] at this
      rw [List.length_cons]
      omega
  | c :: r, k + 1, acc, p, h => by
    have := spl_len S r k acc p h
    rw [List.length_cons]
    omega
theorem spl_many (S : List Nat) : ∀ (L : List Nat) (k : Nat) (acc : List Nat), (spl S k acc L).length ≤ L.length + 1
  | [], k, acc => by rw [spl_nil]; exact Nat.le_refl _
  | c :: r, 0, acc => by
    cases hp : pre S (c :: r) with
    | true =>
      rw [spl_hit hp, List.length_cons, List.length_cons]
      have := spl_many S r (S.length - 1) []
      omega
    | false =>
      rw [spl_miss hp, List.length_cons]
      have := spl_many S r 0 (acc ++ [c])
      omega
  | c :: r, k + 1, acc => by
    have := spl_many S r k acc
    rw [List.length_cons]
    show (spl S k acc r).length ≤ _
    omega
theorem comma_ne : tl (", " : Str) ≠ [] := by decide +kernel
theorem comma_k : (", " : Str).cps.all (· < 256) = true := by decide +kernel
theorem cut_len (x : Str) (a b : Option Int) : (cutS x a b).length ≤ x.length := by
  rw [len_tl, len_tl x]
  show (List.toArray _).toList.length ≤ _
  rw [List.length_take, List.length_drop]
  show _ ≤ x.cps.toList.length
  omega
theorem parts_len {t p : Str} (h : p ∈ partsT t) : p.length ≤ t.length := by
  unfold partsT at h
  split at h
  · cases h
  · have e := split_spl (cutS t none (some (-1))) (", " : Str) comma_ne (kind_ok comma_k)
    have h2 : tl p ∈ (Txt.split (cutS t none (some (-1))) (", " : Str)).map tl := List.mem_map_of_mem h
    rw [e] at h2
    have := spl_len _ _ _ _ _ h2
    rw [List.length_nil, Nat.zero_add, ← len_tl, ← len_tl] at this
    exact Nat.le_trans this (cut_len _ _ _)
theorem parts_many (t : Str) : (partsT t).length ≤ t.length + 1 := by
  unfold partsT
  split
  · exact Nat.zero_le _
  · have e := congrArg List.length (split_spl (cutS t none (some (-1))) (", " : Str) comma_ne (kind_ok comma_k))
    rw [List.length_map] at e
    rw [e]
    have := spl_many (tl (", " : Str)) (tl (cutS t none (some (-1)))) 0 []
    have h2 := cut_len t none (some (-1))
    rw [← len_tl] at this
    omega
end PM
namespace K05
open PySem PySem.Spec PyProof.Rows L2 ZX PM ZR TL
abbrev sRead_note : Stmt := top 34
def spReadNote (K : PySem.W.Frag) : Sp := fun vs H Q _ => ∃ (n t : Str), vs = [.str n, .str t] ∧ t.length ≤ 90000 ∧ ∀ v H', Same H H' → OptR K H' v (noteOf n t) → Q v H'
section
variable {P : Program} {w : World} {K : PySem.W.Frag} {mg : Str → Option Value} {base : Heap} {C : Addr}
theorem scRead_note : FnScope ["name", "text", "op", "_", "rest", "parts", "part"] ["name", "text"] (defScope sRead_note) := ⟨rfl, rfl, rfl, by decide +kernel, rfl, by decide +kernel, by decide +kernel⟩
theorem ok_read_note {f : Addr} {fd : FuncData} (F : FnP K "read_note" sRead_note f fd) (T : Bi mg) (C_is_name : Cal P w K mg base "is_name" 1 ["thing"] (spNameD K C)) : FnOk P w K mg base CX0 2 f fd ["name", "text"] (spReadNote K) := by
  refine F.ok scRead_note (fun vs H Q E h => ?_) (fun cdv A outer s H vs Q E hr h => ?_)
  · obtain ⟨n, t, rfl, _⟩ := h
    rfl
  · obtain ⟨n, t, rfl, hl, k⟩ := h
    obtain ⟨t3, m_MOST_PARTS⟩ := T.m_MOST_PARTS
    refine ⟨_, PSs.nox (pss_cons (ps_asg (pe_partition (pv 1) pe_str) (pg_tup rfl (pgs_cons (pg_name (i := 2) scRead_note.nd rfl (Or.inl rfl)) (pgs_cons (pg_name (i := 3) scRead_note.nd rfl (Or.inl rfl)) (pgs_cons (pg_name (i := 4) scRead_note.nd rfl (Or.inl rfl)) pgs_nil)))))
    (pss_cons (ps_if (PW.pt (pw_or (pt_not (pt_val (pcal C_is_name hr rfl (pa_cons (pv 2) pa_nil)))) (pw_or1 (pt_not (pt_val (pe_m1 PySem.F.slot_str_endswith PySem.F.type_str_endswith mt_endswith (pv 4) pe_str)))))) (pss_one (ps_ret pe_non)) pss_nil)
    (pss_cut (ps_set (i := 5) scRead_note.nd rfl (Or.inl rfl) (pe_ifExp (pt_cmpR op_eq (pv 4) pe_str (nomark _)) (pe_tup pa_nil) (pe_callTy call_tuple_of (by rfl) T.b_tuple (by decide +kernel) (pa_cons (pe_split (pe_slice sl_str (pv 4) po_none (po_some (pe_un un_neg pe_int))) pe_str) pa_nil))))
    (pss_cons (ps_if (PW.pt (pw_or (pt_cmpR op_gt (pe_callB call_len_seq (by rfl) T.b_len (by decide +kernel) (pa_cons (pv 5) pa_nil)) (pe_glob (v := .int 3) rfl m_MOST_PARTS ⟨_, rfl⟩) (nomark _)) (pw_or1 (pt_not (pt_val (pe_callB (cr_all rfl) (by rfl) T.b_all (by decide +kernel) (pa_cons (pe_lcS (own := [("part", 6)]) (g := gName 6) (tt := tYes) (by rfl) scRead_note.nd (pi_tup (pv 5)) (blkOk_by (N := ["name", "text", "op", "_", "rest", "parts", "part"]) (sc := defScope sRead_note) (by decide +kernel)) (fun _ _ _ _ _ => (pg_name (i := 6) scRead_note.nd rfl (Or.inl rfl))) (fun _ _ _ _ _ => pts_nil) (fun _ _ _ _ _ => (pcal C_is_name hr rfl (pa_cons (pv 6) pa_nil)))) pa_nil))))))) (pss_one (ps_ret pe_non)) pss_nil)
    (pss_one (ps_ret (pe_tup (pa_cons pe_str (pa_cons (pv 0) (pa_cons (pv 2) (pa_cons (pv 5) pa_nil))))))))))), ?_⟩
    have h1 := part1_len t ("(" : Str)
    have h3 := part3_len t ("(" : Str)
    have kno : ∀ H', Same H H' → noteOf n t = none → Q .non H' := fun H' sm e => k .non H' sm (by rw [e]; rfl)
    refine ⟨_, rfl, ⟨_, rfl⟩, t, _, rfl, rfl, by decide +kernel, lnB (n := 90000) (by omega), fun p np => ?_⟩
    refine ⟨p, _, rfl, .inl (.inl upd_same), rfl, _, _, rfl, _, _, rfl, _, _, rfl, rfl, ?_⟩
    have s1 := same_new (o := .tup [.str (Txt.partition t ("(" : Str)).1, .str (Txt.partition t ("(" : Str)).2.1, .str (Txt.partition t ("(" : Str)).2.2]) np
    generalize hq1 : (Txt.partition t ("(" : Str)).1 = op at *
    generalize hq2 : (Txt.partition t ("(" : Str)).2.2 = rest at *
    refine ⟨_, rfl, .str op, .str op, rfl, .str op (by omega), fun H2 s2 => ?_⟩
    have s12 := s1.trans s2
    cases hnm : nameB op with
    | false =>
      refine ⟨false, by show V.bl (nameB op) = _; rw [hnm], kno _ s12 ?_⟩
      unfold noteOf
      rw [hq1, hq2, hnm, Bool.false_and]
      rfl
    | true =>
    refine ⟨true, by show V.bl (nameB op) = _; rw [hnm], _, rfl, ⟨_, rfl⟩, rest, _, rfl, rfl, ?_⟩
    cases hew : Txt.endswith rest (")" : Str) with
    | false =>
      refine ⟨false, rfl, kno _ s12 ?_⟩
      unfold noteOf
      rw [hq1, hq2, hnm, hew]
      rfl
    | true =>
    refine ⟨true, rfl, ?_⟩
    refine ⟨fun σ' H' => ∃ q, σ' = [some (.str n), some (.str t), some (.str op), some (.str (Txt.partition t ("(" : Str)).2.1), some (.str rest), some (.ref q), none] ∧ Same H H' ∧ SqT K H' q ((partsT rest).map V.str), ?_, ?_⟩
    · refine ⟨_, rfl, rfl, _, rfl, ?_⟩
      by_cases hz : rest = (")" : Str)
      · refine ifB (decide_eq_true (by rw [hz])) ?_
        refine ⟨by decide, fun q nq => ⟨q, rfl, s12.trans (same_new nq), ?_⟩⟩
        have e : partsT rest = [] := if_pos hz
        rw [e]
        exact .inl (.inl upd_same)
      · refine ifBF (decide_eq_false fun e => hz (by injection e)) ?_
        have hcl := cut_len rest none (some (-1))
        refine ⟨_, rfl, 1, rfl, -1, rfl, rest, rfl, lnB (n := 90000) (by omega), ⟨_, rfl⟩, _, _, rfl, rfl, by decide +kernel, lnB (n := 95000) (by omega), fun q nq => ?_⟩
        have e : partsT rest = Txt.split (cutS rest none (some (-1))) (", " : Str) := if_neg hz
        rw [← e]
        refine ⟨q, _, rfl, .inl ⟨SqL.of upd_same, fun q2 nq2 => ?_⟩⟩
        exact ⟨q2, rfl, (s12.trans (same_new nq)).trans (same_new nq2), .inl (.inl upd_same)⟩
    · rintro σ2 H3 ⟨q, rfl, s3, hq⟩
      have hmany := parts_many rest
      refine ⟨_, rfl, q, _, rfl, .inr hq, _, _, rfl, rfl, _, rfl, ?_⟩
      have en : noteOf n t = if decide ((partsT rest).length ≤ 3) && ((partsT rest).map nameB).all id then some (.note n op (partsT rest)) else none := by
        unfold noteOf
        rw [hq1, hq2, hnm, hew]
        rfl
      by_cases h3' : (partsT rest).length ≤ 3
      rotate_left
      · refine ifD (by rw [List.length_map]; omega) (kno H3 s3 ?_)
        rw [en, decide_eq_false h3', Bool.false_and]
        rfl
      refine ifDF (by rw [List.length_map]; omega) ?_
      rw [decide_eq_true h3', Bool.true_and] at en
      refine lc_into ?_
      refine ⟨_, rfl, _, rfl, ⟨_, hq⟩, ?_⟩
      refine lc_overA (p := none) (as := partsT rest) (Rel := fun _ x y => y = .bl (nameB x)) it_tup (by rw [List.length_map]) (fun _ _ _ _ _ h => h) (fun _ h => nomatch h) (by rw [List.length_map]; exact Nat.lt_of_le_of_lt h3' (by decide)) (fun H' _ pt => pt.sq hq) ?_ ?_
      · intro i z x hz hx H' _ _ R kk
        rw [List.getElem?_map, hx] at hz
        cases hz
        have hlx := parts_len (List.mem_of_getElem? hx)
        exact ⟨rfl, _, rfl, .str x, .str x, rfl, .str x (by omega), fun H4 s4 => kk _ _ (Same.kq s4) s4.pt rfl⟩
      · intro D ys H4 kq _ _ hD all
        have e := All2.map all
        subst e
        have s4 := s3.trans kq.same
        refine ⟨D, (partsT rest).map nameB, rfl, SqL.of (by rw [hD, List.map_map]; rfl), _, rfl, ?_⟩
        cases hall : ((partsT rest).map nameB).all id with
        | false =>
          rw [hall] at en
          exact kno H4 s4 en
        | true =>
          rw [hall] at en
          refine ⟨_, rfl, _, rfl, _, rfl, by show 4 ≤ sizeLine; decide, fun q5 nq5 => ?_⟩
          refine k _ _ (s4.trans (same_new nq5)) ?_
          rw [en]
          exact .tup (.inl (.inl upd_same)) (.cons (.str _) (.cons (.str _) (.cons (.str _) (.cons (.tup ((Pt.new nq5).sq (kq.same.pt.sq hq)) Tvs.ofStrs) .nil))))
end
end K05
set_option Elab.async false
set_option linter.all false
set_option maxRecDepth 100000
set_option maxHeartbeats 4000000
/-! read_row. -/
namespace PM
open PySem PySem.Spec PyProof.Rows L2 ZX ZR TL
def askT (w x : Str) : Str := Txt.removeprefix x (w ++ (" " : Str))
def askM (w x : Str) : Bool := askT w x != x && nameB (askT w x)
def intV (x : Str) : Int := (PySem.intText? x).getD 0
theorem intB_len {x : Str} (h : intB x = true) : x.length ≤ 31 := by
  obtain ⟨_, h1⟩ := Bool.and_eq_true_iff.mp h
  unfold numB at h1
  obtain ⟨_, h1⟩ := Bool.and_eq_true_iff.mp h1
  obtain ⟨h3, _⟩ := Bool.and_eq_true_iff.mp h1
  obtain ⟨h4, _⟩ := Bool.and_eq_true_iff.mp h3
  have h5 := of_decide_eq_true h4
  have e1 : tl ("-" : Str) = [45] := by decide +kernel
  rcases rp_or x ("-" : Str) with ⟨hp, ht⟩ | ⟨_, ht⟩
  · rw [len_tl, ht, e1, List.length_drop, ← len_tl] at h5
    have : ([45] : List Nat).length = 1 := rfl
    omega
  · rw [len_tl, ht, ← len_tl] at h5
    omega
/-- a row's text, read -/
def rowOf (x : Str) : Option Rw :=
  if askM "ask" x then some (.ask (askT "ask" x))
  else if askM "print" x then some (.prt (askT "print" x))
  else if nameB (Txt.partition x (" = " : Str)).1 then
    (if nameB (Txt.partition x (" = " : Str)).2.2 then some (.copy (Txt.partition x (" = " : Str)).1 (Txt.partition x (" = " : Str)).2.2)
    else if intB (Txt.partition x (" = " : Str)).2.2 then some (.give (Txt.partition x (" = " : Str)).1 (intV (Txt.partition x (" = " : Str)).2.2))
    else noteOf (Txt.partition x (" = " : Str)).1 (Txt.partition x (" = " : Str)).2.2)
  else none
theorem dig_all {l : List Nat} (h : (l.map digC).all id = true) : NumText.AllDigits l := fun c hc => by
  have := List.all_eq_true.mp h _ (List.mem_map.mpr ⟨c, hc, rfl⟩)
  obtain ⟨h1, h2⟩ := Bool.and_eq_true_iff.mp this
  exact ⟨of_decide_eq_true h1, of_decide_eq_true h2⟩
theorem int_some {x : Str} (h : intB x = true) (hl : x.length ≤ 640) : PySem.intText? x = some (intV x) := by
  obtain ⟨h0, h1⟩ := Bool.and_eq_true_iff.mp h
  unfold numB at h1
  obtain ⟨h2, h1⟩ := Bool.and_eq_true_iff.mp h1
  obtain ⟨h3, h5⟩ := Bool.and_eq_true_iff.mp h1
  obtain ⟨_, h4⟩ := Bool.and_eq_true_iff.mp h3
  have ad := dig_all h4
  have hne : tl (Txt.removeprefix x ("-" : Str)) ≠ [] := fun e => by
    have := of_decide_eq_true h2
    rw [len_tl, e] at this
    exact absurd this (by decide)
  have e1 : tl ("-" : Str) = [45] := by decide +kernel
  rcases rp_or x ("-" : Str) with ⟨hp, ht⟩ | ⟨_, ht⟩
  · rw [e1] at hp ht
    rw [ht] at ad hne
    cases hx : tl x with
    | nil =>
      rw [hx] at hne
      exact absurd rfl hne
    | cons c cs =>
      rw [hx] at ad hne hp
      have hc : c = 45 := by
        unfold pre at hp
        simp at hp
        exact hp
      subst hc
      have := intText_neg (x := x) (cs := cs) hx ad hne (by omega)
      unfold intV
      rw [this]
      rfl
  · rw [ht] at ad hne
    have := intText_digits (x := x) ad hne (by omega)
    unfold intV
    rw [this]
    rfl
end PM
namespace K05
open PySem PySem.Spec PyProof.Rows L2 ZX PM ZR TL
abbrev sRead_row : Stmt := top 33
def spReadRow (K : PySem.W.Frag) : Sp := fun vs H Q _ => ∃ (x : Str), vs = [.str x] ∧ x.length ≤ 90000 ∧ ∀ v H', Same H H' → OptR K H' v (rowOf x) → Q v H'
section
variable {P : Program} {w : World} {K : PySem.W.Frag} {mg : Str → Option Value} {base : Heap} {C : Addr}
theorem scRead_row : FnScope ["text", "word", "asked", "name", "_", "rest"] ["text"] (defScope sRead_row) := ⟨rfl, rfl, rfl, by decide +kernel, rfl, by decide +kernel, by decide +kernel⟩
theorem ok_read_row {f : Addr} {fd : FuncData} (F : FnP K "read_row" sRead_row f fd) (T : Bi mg) (hA : Asking K mg) (C_is_name : Cal P w K mg base "is_name" 1 ["thing"] (spNameD K C)) (C_int : Cal P w K mg base "is_integer_text" 2 ["text"] spIntT) (C_note : Cal P w K mg base "read_note" 2 ["name", "text"] (spReadNote K)) : FnOk P w K mg base CX0 3 f fd ["text"] (spReadRow K) := by
  refine F.ok scRead_row (fun vs H Q E h => ?_) (fun cdv A outer s H vs Q E hr h => ?_)
  · obtain ⟨x, rfl, _⟩ := h
    rfl
  · obtain ⟨x, rfl, hl, k⟩ := h
    obtain ⟨aA, mA, hAs⟩ := hA
    have hrn := hr.mono (show 1 ≤ 2 by decide)
    refine ⟨_, PSs.nox (pss_cons (ps_for PassesOwn.never rfl (pi_tup (pe_glob (v := .ref aA) rfl mA rfl)) (pg_name (i := 1) scRead_row.nd rfl (Or.inl rfl)) (pss_cons (ps_set (i := 2) scRead_row.nd rfl (Or.inl rfl) (pe_m1 PySem.F.slot_str_removeprefix PySem.F.type_str_removeprefix mt_removeprefix (pv 0) (pe_op op_add_str (pv 1) pe_str)))
      (pss_one (ps_if (PW.pt (pw_and (pt_cmpR op_ne (pv 2) (pv 0) (nomark _)) (pw_and1 (pt_val (pcal C_is_name hrn rfl (pa_cons (pv 2) pa_nil)))))) (pss_one (ps_ret (pe_tup (pa_cons (pv 1) (pa_cons (pv 2) pa_nil))))) pss_nil))))
    (pss_cons (ps_asg (pe_partition (pv 0) pe_str) (pg_tup rfl (pgs_cons (pg_name (i := 3) scRead_row.nd rfl (Or.inl rfl)) (pgs_cons (pg_name (i := 4) scRead_row.nd rfl (Or.inl rfl)) (pgs_cons (pg_name (i := 5) scRead_row.nd rfl (Or.inl rfl)) pgs_nil)))))
    (pss_cons (ps_if (pt_not (pt_val (pcal C_is_name hrn rfl (pa_cons (pv 3) pa_nil)))) (pss_one (ps_ret pe_non)) pss_nil)
    (pss_cons (ps_if (pt_val (pcal C_is_name hrn rfl (pa_cons (pv 5) pa_nil))) (pss_one (ps_ret (pe_tup (pa_cons pe_str (pa_cons (pv 3) (pa_cons (pv 5) pa_nil)))))) pss_nil)
    (pss_cons (ps_if (pt_val (pcal C_int hr rfl (pa_cons (pv 5) pa_nil))) (pss_one (ps_ret (pe_tup (pa_cons pe_str (pa_cons (pv 3) (pa_cons (pe_callTy call_int_str (by rfl) T.b_int (by decide +kernel) (pa_cons (pv 5) pa_nil)) pa_nil)))))) pss_nil)
    (pss_one (ps_ret (pcal C_note hr rfl (pa_cons (pv 3) (pa_cons (pv 5) pa_nil)))))))))), ?_⟩
    have hlen : ∀ w : Str, (askT w x).length ≤ 90000 := fun w => Nat.le_trans (rp_len _ _) hl
    refine ⟨aA, rfl, ⟨_, hAs H⟩, ?_⟩
    refine for_tup (xs := [V.str "ask", V.str "print"]) (fun i σ' H' => ∃ y z, σ' = [some (.str x), y, z, none, none, none] ∧ Same H H' ∧ (1 ≤ i → askM "ask" x = false) ∧ (2 ≤ i → askM "print" x = false)) ⟨_, _, rfl, fun _ _ h => h, fun h => absurd h (by decide), fun h => absurd h (by decide)⟩ (fun _ _ H' _ _ => hAs H') ?_ ?_
    · rintro i xv σ' H' hx ⟨y, z, rfl, sm, h1, h2⟩
      match i, hx with
      | 0, hx =>
        cases hx
        refine ⟨_, rfl, ⟨_, rfl⟩, _, rfl, _, _, rfl, rfl, by decide +kernel, x, _, rfl, rfl, lnB (n := 90000) hl, ?_⟩
        have ea : Txt.removeprefix x (Str.ofString "ask" ++ Str.ofString " ") = askT "ask" x := rfl
        rw [ea]
        have hle := hlen "ask"
        have en : askM "ask" x = (askT "ask" x != x && nameB (askT "ask" x)) := rfl
        generalize askT "ask" x = a at *
        refine ⟨_, rfl, _, rfl, rfl, _, rfl, ?_⟩
        rw [dec_str]
        cases e1 : (a == x) with
        | true =>
          refine ifBF (by rfl) ⟨_, _, rfl, sm, fun _ => by rw [en, bne, e1]; rfl, fun h => absurd h (by decide)⟩
        | false =>
          refine ifB (by rfl) ⟨_, rfl, .str a, .str a, rfl, .str a (by omega), fun H2 s2 => ?_⟩
          have e2 : (a != x) = true := by rw [bne, e1]; rfl
          cases hn : nameB a with
          | false => exact ⟨false, by show V.bl (nameB a) = _; rw [hn], _, _, rfl, sm.trans s2, fun _ => by rw [en, hn, Bool.and_false], fun h => absurd h (by decide)⟩
          | true =>
            refine ⟨true, by show V.bl (nameB a) = _; rw [hn], _, rfl, _, rfl, by show 2 ≤ sizeLine; decide, fun q nq => ?_⟩
            refine k _ _ ((sm.trans s2).trans (same_new nq)) ?_
            have er : rowOf x = some (.ask a) := by
              unfold rowOf
              have em : askM "ask" x = true := by rw [en, e2, hn]; rfl
              rw [if_pos em, show askT "ask" x = a from ea]
            rw [er]
            exact .tup (.inl (.inl upd_same)) (.cons (.str _) (.cons (.str _) .nil))
      | 1, hx =>
        cases hx
        refine ⟨_, rfl, ⟨_, rfl⟩, _, rfl, _, _, rfl, rfl, by decide +kernel, x, _, rfl, rfl, lnB (n := 90000) hl, ?_⟩
        have ea : Txt.removeprefix x (Str.ofString "print" ++ Str.ofString " ") = askT "print" x := rfl
        rw [ea]
        have hle := hlen "print"
        have en : askM "print" x = (askT "print" x != x && nameB (askT "print" x)) := rfl
        generalize askT "print" x = a at *
        refine ⟨_, rfl, _, rfl, rfl, _, rfl, ?_⟩
        rw [dec_str]
        cases e1 : (a == x) with
        | true =>
          refine ifBF (by rfl) ⟨_, _, rfl, sm, fun _ => h1 (by decide), fun _ => by rw [en, bne, e1]; rfl⟩
        | false =>
          refine ifB (by rfl) ⟨_, rfl, .str a, .str a, rfl, .str a (by omega), fun H2 s2 => ?_⟩
          have e2 : (a != x) = true := by rw [bne, e1]; rfl
          cases hn : nameB a with
          | false => exact ⟨false, by show V.bl (nameB a) = _; rw [hn], _, _, rfl, sm.trans s2, fun _ => h1 (by decide), fun _ => by rw [en, hn, Bool.and_false]⟩
          | true =>
            refine ⟨true, by show V.bl (nameB a) = _; rw [hn], _, rfl, _, rfl, by show 2 ≤ sizeLine; decide, fun q nq => ?_⟩
            refine k _ _ ((sm.trans s2).trans (same_new nq)) ?_
            have er : rowOf x = some (.prt a) := by
              unfold rowOf
              have em : askM "print" x = true := by rw [en, e2, hn]; rfl
              rw [if_neg (by rw [h1 (by decide)]; decide), if_pos em, show askT "print" x = a from ea]
            rw [er]
            exact .tup (.inl (.inl upd_same)) (.cons (.str _) (.cons (.str _) .nil))
      | n + 2, hx => cases hx
    · rintro σ' H' ⟨y, z, rfl, sm, h1, h2⟩
      have hp1 := part1_len x (" = " : Str)
      have hp3 := part3_len x (" = " : Str)
      have er : rowOf x = if nameB (Txt.partition x (" = " : Str)).1 then (if nameB (Txt.partition x (" = " : Str)).2.2 then some (.copy (Txt.partition x (" = " : Str)).1 (Txt.partition x (" = " : Str)).2.2) else if intB (Txt.partition x (" = " : Str)).2.2 then some (.give (Txt.partition x (" = " : Str)).1 (intV (Txt.partition x (" = " : Str)).2.2)) else noteOf (Txt.partition x (" = " : Str)).1 (Txt.partition x (" = " : Str)).2.2) else none := by
        unfold rowOf
        rw [if_neg (by rw [h1 (by decide)]; decide), if_neg (by rw [h2 (by decide)]; decide)]
      refine ⟨_, rfl, ⟨_, rfl⟩, x, _, rfl, rfl, by decide +kernel, lnB (n := 90000) hl, fun p np => ?_⟩
      have s1 := sm.trans (same_new (o := .tup [.str (Txt.partition x (" = " : Str)).1, .str (Txt.partition x (" = " : Str)).2.1, .str (Txt.partition x (" = " : Str)).2.2]) np)
      refine ⟨p, _, rfl, .inl (.inl upd_same), rfl, _, _, rfl, _, _, rfl, _, _, rfl, rfl, ?_⟩
      generalize (Txt.partition x (" = " : Str)).1 = nm at *
      generalize (Txt.partition x (" = " : Str)).2.2 = rest at *
      refine ⟨_, rfl, .str nm, .str nm, rfl, .str nm (by omega), fun H2 s2 => ?_⟩
      have s12 := s1.trans s2
      cases hn : nameB nm with
      | false =>
        refine ⟨false, by show V.bl (nameB nm) = _; rw [hn], k _ _ s12 ?_⟩
        rw [er, hn]
        rfl
      | true =>
      rw [hn, if_pos rfl] at er
      refine ⟨true, by show V.bl (nameB nm) = _; rw [hn], _, rfl, .str rest, .str rest, rfl, .str rest (by omega), fun H3 s3 => ?_⟩
      have s13 := s12.trans s3
      cases hn2 : nameB rest with
      | true =>
        rw [hn2, if_pos rfl] at er
        refine ⟨true, by show V.bl (nameB rest) = _; rw [hn2], _, rfl, _, rfl, by show 3 ≤ sizeLine; decide, fun q nq => k _ _ (s13.trans (same_new nq)) ?_⟩
        rw [er]
        exact .tup (.inl (.inl upd_same)) (.cons (.str _) (.cons (.str _) (.cons (.str _) .nil)))
      | false =>
      rw [hn2, if_neg (by decide)] at er
      refine ⟨false, by show V.bl (nameB rest) = _; rw [hn2], _, rfl, rest, rfl, by omega, fun H4 s4 => ?_⟩
      have s14 := s13.trans s4
      cases hi : intB rest with
      | true =>
        rw [hi, if_pos rfl] at er
        have h31 := intB_len hi
        refine ⟨true, rfl, _, rfl, _, rfl, rest, _, rfl, int_some hi (by omega), by omega, by show 3 ≤ sizeLine; decide, fun q nq => k _ _ (s14.trans (same_new nq)) ?_⟩
        rw [er]
        exact .tup (.inl (.inl upd_same)) (.cons (.str _) (.cons (.str _) (.cons (.int _) .nil)))
      | false =>
      rw [hi, if_neg (by decide)] at er
      refine ⟨false, rfl, _, rfl, _, rfl, nm, rest, rfl, by omega, fun v H5 s5 hv => k v H5 (s14.trans s5) ?_⟩
      rw [er]
      exact hv
end
end K05
set_option Elab.async false
set_option linter.all false
set_option maxRecDepth 100000
set_option maxHeartbeats 4000000
/-! A row's text, read, is the row. -/
namespace PM
open PySem PySem.Spec PyProof.Rows L2 ZX ZR TL
theorem name_at {x : Str} (h : NameOk x) {c : Nat} (hc : c ∈ tl x) : 97 ≤ c ∧ c ≤ 122 := h.2.2 c hc
theorem name_free {x : Str} (h : NameOk x) {c : Nat} (hc : c < 97) : c ∉ tl x := fun m => by
  have := (name_at h m).1
  omega
theorem nameB_of {x : Str} (h : NameOk x) : nameB x = true := by
  unfold nameB
  rw [decide_eq_true h.1, decide_eq_true h.2.1, Bool.true_and, Bool.true_and]
  rw [List.all_eq_true]
  intro b hb
  obtain ⟨c, hc, rfl⟩ := List.mem_map.mp hb
  obtain ⟨h1, h2⟩ := h.2.2 c hc
  rw [decide_eq_true h1, decide_eq_true h2]
  rfl
theorem nameB_no {x : Str} {c : Nat} (hm : c ∈ tl x) (hc : c < 97) : nameB x = false := by
  cases h : nameB x with
  | false => rfl
  | true => exact absurd hm (name_free (nameB_ok h) hc)
theorem pre_split {S L : List Nat} (h : pre S L = true) : L = S ++ L.drop S.length := by
  have e : L.take S.length = S := by
    unfold pre at h
    simpa using h
  have e2 := List.take_append_drop S.length L
  rw [e] at e2
  exact e2.symm
theorem ask_no {w x : Str} (h1 : 61 ∈ tl x) (h2 : 61 ∉ tl (w ++ (" " : Str))) : askM w x = false := by
  unfold askM
  rcases rp_or x (w ++ (" " : Str)) with ⟨hp, ht⟩ | ⟨_, ht⟩
  · have hs := pre_split hp
    rw [hs] at h1
    rcases List.mem_append.mp h1 with h | h
    · exact absurd h h2
    · rw [← ht] at h
      rw [show askT w x = Txt.removeprefix x (w ++ (" " : Str)) from rfl, nameB_no h (by decide), Bool.and_false]
  · rw [show askT w x = x from ht]
    simp
theorem ask_yes {w x : Str} (hx : NameOk x) : askT w (w ++ (" " : Str) ++ x) = x ∧ askM w (w ++ (" " : Str) ++ x) = true := by
  have hp : pre (tl (w ++ (" " : Str))) (tl (w ++ (" " : Str) ++ x)) = true := by
    rw [tl_append (w ++ (" " : Str)) x]
    exact pre_self _ _
  have e : askT w (w ++ (" " : Str) ++ x) = x := by
    rcases rp_or (w ++ (" " : Str) ++ x) (w ++ (" " : Str)) with ⟨_, ht⟩ | ⟨hn, _⟩
    · refine ext_tl ?_
      show tl (Txt.removeprefix (w ++ (" " : Str) ++ x) (w ++ (" " : Str))) = _
      rw [ht, tl_append (w ++ (" " : Str)) x, List.drop_left]
    · rw [hp] at hn
      cases hn
  refine ⟨e, ?_⟩
  unfold askM
  rw [e, nameB_of hx, Bool.and_true]
  have hl : x ≠ w ++ (" " : Str) ++ x := fun h => by
    have := congrArg Str.length h
    rw [len_app, len_app, show (" " : Str).length = 1 by decide +kernel] at this
    omega
  simpa using hl
theorem tl_eq3 : tl (" = " : Str) = [32, 61, 32] := by decide +kernel
theorem tl_asksp : tl (("ask" : Str) ++ (" " : Str)) = [97, 115, 107, 32] := by decide +kernel
theorem tl_prtsp : tl (("print" : Str) ++ (" " : Str)) = [112, 114, 105, 110, 116, 32] := by decide +kernel
theorem ask_print {x : Str} : askM "ask" (("print" : Str) ++ (" " : Str) ++ x) = false := by
  unfold askM
  rcases rp_or (("print" : Str) ++ (" " : Str) ++ x) (("ask" : Str) ++ (" " : Str)) with ⟨hp, _⟩ | ⟨_, ht⟩
  · rw [tl_append (("print" : Str) ++ (" " : Str)) x, tl_prtsp, tl_asksp] at hp
    exact absurd hp (by rw [show [112, 114, 105, 110, 116, 32] ++ tl x = 112 :: ([114, 105, 110, 116, 32] ++ tl x) from rfl, pre_of_head _ _ (by decide)]; decide)
  · rw [show askT "ask" (("print" : Str) ++ (" " : Str) ++ x) = ("print" : Str) ++ (" " : Str) ++ x from ht]
    simp
/-- X = REST, read -/
theorem row_eq {x rest : Str} (hx : NameOk x) : rowOf (x ++ (" = " : Str) ++ rest) = if nameB rest then some (.copy x rest) else if intB rest then some (.give x (intV rest)) else noteOf x rest := by
  have hm : 61 ∈ tl (x ++ (" = " : Str) ++ rest) := by
    rw [tl_append, tl_append, tl_eq3]
    simp
  unfold rowOf
  rw [if_neg (by rw [ask_no hm (by rw [tl_asksp]; decide)]; decide), if_neg (by rw [ask_no hm (by rw [tl_prtsp]; decide)]; decide), partition_app tl_eq3 (name_free hx (by decide)), if_pos (nameB_of hx)]
theorem digC_of {l : List Nat} (h : NumText.AllDigits l) : (l.map digC).all id = true := by
  rw [List.all_eq_true]
  intro b hb
  obtain ⟨c, hc, rfl⟩ := List.mem_map.mp hb
  obtain ⟨h1, h2⟩ := h c hc
  unfold digC
  rw [id, decide_eq_true h1, decide_eq_true h2]
  rfl
theorem numL_head : ∀ (n : Nat), 0 < n → (numL n).head? ≠ some 48 := by
  intro n
  induction n using Nat.strongRecOn with
  | ind n ih =>
    intro h
    by_cases h10 : n < 10
    · rw [numL_lt h10]
      intro e
      have e : some (48 + n) = some 48 := e
      have := Option.some.inj e
      omega
    · rw [numL_step (by omega)]
      have h2 := ih (n / 10) (by omega) (by omega)
      cases hl : numL (n / 10) with
      | nil => exact absurd hl (numL_ne _)
      | cons c cs =>
        rw [hl] at h2
        exact h2
theorem numL_0 : numL 0 = [48] := numL_lt (by decide)
theorem tl_minus : tl ("-" : Str) = [45] := by decide +kernel
theorem numL_pre (n : Nat) : pre [45] (numL n) = false := by
  cases h : numL n with
  | nil => exact absurd h (numL_ne n)
  | cons c cs =>
    refine pre_of_head _ _ ?_
    have := numL_digits n c (by rw [h]; exact List.mem_cons_self)
    omega
theorem rp_num (i : Int) : tl (Txt.removeprefix (numT i) ("-" : Str)) = numL i.natAbs := by
  have e := tl_numT i
  rcases rp_or (numT i) ("-" : Str) with ⟨hp, ht⟩ | ⟨hp, ht⟩
  · rw [ht, tl_minus]
    rw [tl_minus, e] at hp
    split at e
    · rw [if_pos (by assumption), numL_pre] at hp
      cases hp
    · rw [e]
      rfl
  · rw [ht]
    rw [tl_minus, e] at hp
    split at e
    · exact e
    · rw [if_neg (by assumption)] at hp
      have : pre [45] (45 :: numL i.natAbs) = true := pre_self [45] (numL i.natAbs)
      rw [this] at hp
      cases hp
theorem intB_num {i : Int} (h : i.natAbs < 10 ^ 30) : intB (numT i) = true := by
  unfold intB
  have hne : (numT i != ("-0" : Str)) = true := by
    have hn : numT i ≠ ("-0" : Str) := fun e => by
      have e2 := congrArg tl e
      rw [tl_numT, show tl ("-0" : Str) = [45, 48] by decide +kernel] at e2
      split at e2
      · have := numL_digits i.natAbs 45 (by rw [e2]; exact List.mem_cons_self)
        omega
      · have e3 : numL i.natAbs = [48] := (List.cons.inj e2).2
        rw [← numL_0] at e3
        have := numL_inj e3
        omega
    simpa using hn
  rw [hne, Bool.true_and]
  unfold numB
  have ht := rp_num i
  have hl := numL_len (by decide) h
  have hp : 1 ≤ (numL i.natAbs).length := by
    cases hq : numL i.natAbs with
    | nil => exact absurd hq (numL_ne _)
    | cons c cs => exact Nat.succ_le_succ (Nat.zero_le _)
  rw [len_tl, ht, decide_eq_true hp, decide_eq_true hl, digC_of (numL_digits _), Bool.true_and, Bool.true_and, Bool.true_and]
  by_cases h0 : i.natAbs = 0
  · have : Txt.removeprefix (numT i) ("-" : Str) = ("0" : Str) := ext_tl (by rw [ht, h0, numL_0]; decide +kernel)
    rw [this, beq_self_eq_true, Bool.or_true]
  · have : ((numL i.natAbs).head? != some 48) = true := by simpa using numL_head _ (by omega)
    rw [this, Bool.true_or]
theorem intV_num {i : Int} (h : i.natAbs < 10 ^ 30) : intV (numT i) = i := by
  unfold intV
  have hl := numL_len (k := 30) (by decide) h
  have e := tl_numT i
  split at e
  · rename_i h0
    have e1 : (numT i).cps.toList = numL i.natAbs := e
    have e2 : (numT i).length ≤ 4300 := by rw [len_tl, e]; omega
    rw [intText_digits (by rw [e1]; exact numL_digits _) (by rw [e1]; exact numL_ne _) e2, e1, numL_val]
    show ((i.natAbs : Nat) : Int) = i
    omega
  · rename_i h0
    have e1 : (numT i).cps.toList = 45 :: numL i.natAbs := e
    have e2 : (numT i).length ≤ 4300 := by rw [len_tl, e, List.length_cons]; omega
    rw [intText_neg e1 (numL_digits _) (numL_ne _) e2, numL_val]
    show -((i.natAbs : Nat) : Int) = i
    omega
theorem nameB_num (i : Int) : nameB (numT i) = false := by
  cases hq : numL i.natAbs with
  | nil => exact absurd hq (numL_ne _)
  | cons c cs =>
    have hd := numL_digits i.natAbs c (by rw [hq]; exact List.mem_cons_self)
    refine nameB_no (c := c) ?_ (by omega)
    rw [tl_numT, hq]
    split <;> simp
theorem intB_no {x : Str} (h1 : 40 ∈ tl x) (h2 : (tl x).head? ≠ some 45) : intB x = false := by
  unfold intB
  have e : Txt.removeprefix x ("-" : Str) = x := by
    rcases rp_or x ("-" : Str) with ⟨hp, _⟩ | ⟨_, ht⟩
    · rw [tl_minus] at hp
      have := pre_split hp
      rw [this] at h2
      exact absurd rfl h2
    · exact ht
  rw [e]
  have hd : ((tl x).map digC).all id = false := by
    cases hq : ((tl x).map digC).all id with
    | false => rfl
    | true =>
      have := dig_all hq 40 h1
      omega
  unfold numB
  rw [hd, Bool.and_false, Bool.false_and, Bool.and_false, Bool.and_false]
theorem sub_at (x y : Str) (i : Nat) : Builtin.Str.subAt x y i = pre (tl y) ((tl x).drop i) := by
  unfold Builtin.Str.subAt pre
  have e : (x.cps.extract i (i + y.length)).toList = ((tl x).drop i).take (tl y).length := by
    rw [Array.toList_extract, len_tl y]
    simp [tl, List.extract]
  rw [← e]
  rw [Bool.eq_iff_iff]
  simp only [beq_iff_eq]
  exact ⟨fun h => by rw [h], fun h => Array.toList_inj.mp h⟩
theorem ends_app (x y : Str) : Txt.endswith (x ++ y) y = true := by
  unfold Txt.endswith
  rw [sub_at, len_app, tl_append]
  have e : x.length + y.length - y.length = (tl x).length := by rw [← len_tl]; omega
  rw [e, List.drop_left]
  have : pre (tl y) (tl y) = true := by
    have := pre_self (tl y) []
    rw [List.append_nil] at this
    exact this
  rw [this, Bool.and_true, decide_eq_true]
  omega
theorem cut_app (x y : Str) (h : y.length = 1) : cutS (x ++ y) none (some (-1)) = x := by
  refine ext_tl ?_
  show (List.toArray _).toList = _
  have e1 : HT.sIx (x ++ y).length 0 none = 0 := rfl
  have e2 : HT.sIx (x ++ y).length (x ++ y).length (some (-1)) = x.length := by
    rw [len_app, h]
    have e0 : ∀ n d : Nat, HT.sIx n d (some (-1)) = ((-1 : Int) + (n : Int)).toNat := fun n d => rfl
    rw [e0]
    omega
  rw [e1, e2, List.drop_zero, Nat.sub_zero]
  show (tl (x ++ y)).take x.length = tl x
  rw [tl_append, len_tl x, List.take_left]
theorem tl_cl : tl (")" : Str) = [41] := by decide +kernel
theorem tl_op : tl ("(" : Str) = [40] := by decide +kernel
theorem tl_cm : tl (", " : Str) = [44, 32] := by decide +kernel
theorem join_nil : Txt.join (", " : Str) [] = Str.empty := ext_tl (by rw [join_eq, tl_join]; rfl)
theorem join_ne {p : Str} {ps : List Str} (h : NameOk p) : tl (Txt.join (", " : Str) (p :: ps)) ≠ [] := by
  rw [join_eq, tl_join]
  have hp : tl p ≠ [] := fun e => by
    have := h.1
    rw [len_tl, e] at this
    exact absurd this (by decide)
  cases ps with
  | nil => exact hp
  | cons q qs =>
    show tl p ++ _ ≠ []
    intro e
    exact hp (List.append_eq_nil_iff.mp e).1
theorem parts_join {ps : List Str} (h : ∀ y ∈ ps, NameOk y) : partsT (Txt.join (", " : Str) ps ++ (")" : Str)) = ps := by
  have h1 : (")" : Str).length = 1 := by decide +kernel
  unfold partsT
  rw [cut_app _ _ h1]
  cases ps with
  | nil =>
    rw [if_pos (by rw [join_nil, e_app])]
  | cons p ps =>
    have hne : Txt.join (", " : Str) (p :: ps) ++ (")" : Str) ≠ (")" : Str) := fun e => by
      have e2 := congrArg tl e
      rw [tl_append] at e2
      have e3 : tl (Txt.join (", " : Str) (p :: ps)) = [] := by
        have := congrArg List.length e2
        rw [List.length_append] at this
        exact List.length_eq_zero_iff.mp (by omega)
      exact join_ne (h p List.mem_cons_self) e3
    rw [if_neg hne]
    exact split_join tl_cm comma_k (List.cons_ne_nil _ _) fun q hq => name_free (h q hq) (by decide)
/-- a row's text is read back -/
theorem row_back : ∀ {e : Nat} (r : Rw), okR e r → plainR r = true → (∀ x i, r = .give x i → i.natAbs < 10 ^ 30) → rowOf (txtR r) = some r
  | e, .ask x, ok, _, _ => by
    have n1 : NameOk x := ok
    obtain ⟨e1, e2⟩ := ask_yes (w := "ask") n1
    unfold rowOf
    rw [txtR, if_pos e2, e1]
  | e, .prt x, ok, _, _ => by
    have n1 : NameOk x := ok
    obtain ⟨e1, e2⟩ := ask_yes (w := "print") n1
    unfold rowOf
    rw [txtR, if_neg (by rw [ask_print]; decide), if_pos e2, e1]
  | e, .copy x y, ok, _, _ => by
    rw [txtR, row_eq ok.1, if_pos (nameB_of ok.2)]
  | e, .give x i, ok, _, sm => by
    have n1 : NameOk x := ok
    have hi := sm x i rfl
    rw [txtR, row_eq n1, if_neg (by rw [nameB_num]; decide), if_pos (intB_num hi), intV_num hi]
  | e, .note x o ps, ok, _, _ => by
    obtain ⟨n1, n2, l3, n3⟩ := ok
    have et : txtR (.note x o ps) = x ++ (" = " : Str) ++ (o ++ ("(" : Str) ++ (Txt.join (", " : Str) ps ++ (")" : Str))) := by
      rw [txtR]
      simp only [app_as]
    have hm : 40 ∈ tl (o ++ ("(" : Str) ++ (Txt.join (", " : Str) ps ++ (")" : Str))) := by
      rw [tl_append, tl_append, tl_op]
      simp
    have hh : (tl (o ++ ("(" : Str) ++ (Txt.join (", " : Str) ps ++ (")" : Str)))).head? ≠ some 45 := by
      rw [tl_append, tl_append]
      cases hq : tl o with
      | nil =>
        have := n2.1
        rw [len_tl, hq] at this
        exact absurd this (by decide)
      | cons c cs =>
        have := (name_at n2 (c := c) (by rw [hq]; exact List.mem_cons_self)).1
        intro e
        have e : some c = some 45 := e
        have := Option.some.inj e
        omega
    rw [et, row_eq n1, if_neg (by rw [nameB_no hm (by decide)]; decide), if_neg (by rw [intB_no hm hh]; decide)]
    unfold noteOf
    rw [partition_app tl_op (name_free n2 (by decide))]
    have hall : (ps.map nameB).all id = true := by
      rw [List.all_eq_true]
      intro b hb
      obtain ⟨p, hp, rfl⟩ := List.mem_map.mp hb
      exact nameB_of (n3 p hp)
    show (if nameB o && Txt.endswith (Txt.join (", " : Str) ps ++ (")" : Str)) (")" : Str) then (if decide ((partsT (Txt.join (", " : Str) ps ++ (")" : Str))).length ≤ 3) && ((partsT (Txt.join (", " : Str) ps ++ (")" : Str))).map nameB).all id then some (Rw.note x o (partsT (Txt.join (", " : Str) ps ++ (")" : Str)))) else none) else none) = _
    rw [ends_app, nameB_of n2, parts_join n3, hall, decide_eq_true l3]
    rfl
  | e, .either _ _, _, h, _ => by cases h
  | e, .again _, _, h, _ => by cases h
end PM
set_option Elab.async false
set_option linter.all false
set_option maxRecDepth 100000
set_option maxHeartbeats 4000000
/-! A line without the blanks ahead of it. -/
namespace PM
open PySem PySem.Spec PyProof.Rows L2 ZX ZR TL
def bareT (x : Str) : Str := Txt.lstripChars x (" " : Str)
theorem drop_tw (p : Nat → Bool) : ∀ l : List Nat, l.drop (l.takeWhile p).length = l.dropWhile p
  | [] => rfl
  | c :: l => by
    cases h : p c with
    | true => rw [List.takeWhile_cons_of_pos h, List.dropWhile_cons_of_pos h, List.length_cons, List.drop_succ_cons, drop_tw p l]
    | false => rw [List.takeWhile_cons_of_neg (by rw [h]; decide), List.dropWhile_cons_of_neg (by rw [h]; decide)]; rfl
theorem sp_con : (fun c => (" " : Str).cps.contains c) = (fun c : Nat => c == 32) := by
  funext c
  have e : (" " : Str).cps = #[32] := by decide +kernel
  rw [e]
  simp [Array.contains, BEq.comm]
theorem bare_tl (x : Str) : tl (bareT x) = (tl x).dropWhile (· == 32) := by
  unfold bareT Txt.lstripChars Txt.stripBy
  have e1 : stripLo (" " : Str).cps.contains true x = ((tl x).takeWhile (· == 32)).length := by
    show ((tl x).takeWhile (" " : Str).cps.contains).length = _
    rw [show (" " : Str).cps.contains = (fun c : Nat => c == 32) from sp_con]
  have e2 : ∀ lo, stripHi (" " : Str).cps.contains false x lo = x.length := fun _ => rfl
  split
  · rename_i h
    unfold stripSame at h
    obtain ⟨h1, _⟩ := Bool.and_eq_true_iff.mp h
    rw [e1] at h1
    have h2 : ((tl x).takeWhile (· == 32)).length = 0 := by simpa using h1
    rw [← drop_tw, h2, List.drop_zero]
  · unfold stripped
    rw [e1, e2, tl_strSub_end, drop_tw]
theorem bare_len (x : Str) : (bareT x).length ≤ x.length := by
  rw [len_tl, bare_tl, ← drop_tw, List.length_drop, len_tl x]
  exact Nat.sub_le _ _
theorem ind_tl : ∀ d : Nat, tl (indS d) = List.replicate (2 * d) 32
  | 0 => rfl
  | d + 1 => by
    have e2 : tl ("  " : Str) = [32, 32] := by decide +kernel
    rw [indS, tl_append, ind_tl d, e2]
    rw [show 2 * (d + 1) = 2 * d + 1 + 1 by omega, List.replicate_succ, List.replicate_succ]
    rfl
theorem drop_rep (l : List Nat) (h : l.head? ≠ some 32) : ∀ n : Nat, (List.replicate n 32 ++ l).dropWhile (· == 32) = l
  | 0 => by
    cases l with
    | nil => rfl
    | cons c cs =>
      have : (c == 32) = false := by
        have : c ≠ 32 := fun e => h (by rw [e]; rfl)
        simpa using this
      show (c :: cs).dropWhile _ = _
      rw [List.dropWhile_cons_of_neg (by rw [this]; decide)]
  | n + 1 => by
    rw [List.replicate_succ, List.cons_append, List.dropWhile_cons_of_pos (by decide), drop_rep l h n]
theorem bare_ind {x : Str} (h : (tl x).head? ≠ some 32) (d : Nat) : bareT (indS d ++ x) = x := by
  refine ext_tl ?_
  rw [bare_tl, tl_append, ind_tl, drop_rep _ h]
end PM
set_option Elab.async false
set_option linter.all false
set_option maxRecDepth 100000
set_option maxHeartbeats 4000000
/-! Reading line by line; the lines of a block are read back. -/
namespace PM
open PySem PySem.Spec PyProof.Rows L2 ZX ZR TL
inductive Knd where
  | base | ei1 | ei2 (a : List Rw) | ag
structure Op where
  kd : Knd
  tk : List Rw
def isE1 : Knd → Bool
  | .ei1 => true
  | _ => false
def rowK : Knd → List Rw → Rw
  | .ei2 a, b => .either a b
  | _, b => .again b
/-- the innermost one, and those around it -/
abbrev Rd := Op × List Op
def closeF : Nat → Op → List Op → Option Rd
  | _, t, [] => some (t, [])
  | n, t, u :: S => if n < S.length + 2 then (if isE1 t.kd then none else closeF n ⟨u.kd, u.tk ++ [rowK t.kd t.tk]⟩ S) else some (t, u :: S)
def beginF (x : Str) (p : Rd) : Option Rd :=
  if x = ("either" : Str) then some (⟨.ei1, []⟩, p.1 :: p.2)
  else if x = ("again" : Str) then some (⟨.ag, []⟩, p.1 :: p.2)
  else (rowOf x).map fun r => (⟨p.1.kd, p.1.tk ++ [r]⟩, p.2)
def turnF (p : Rd) : Option Rd := if isE1 p.1.kd then some (⟨.ei2 p.1.tk, []⟩, p.2) else none
def deepT (x : Str) : Nat := (x.length - (bareT x).length) / 2
def oddT (x : Str) : Nat := (x.length - (bareT x).length) % 2
def takeF (x : Str) (p : Rd) : Option Rd :=
  if oddT x ≠ 0 ∨ p.2.length + 1 ≤ deepT x then none
  else if bareT x = ("or" : Str) then (if deepT x + 1 < p.2.length + 1 then (closeF (deepT x + 2) p.1 p.2).bind turnF else none)
  else (closeF (deepT x + 1) p.1 p.2).bind (beginF (bareT x))
def runL : List Str → Rd → Option Rd
  | [], p => some p
  | x :: l, p => (takeF x p).bind (runL l)
theorem runL_app : ∀ (a b : List Str) (p : Rd), runL (a ++ b) p = (runL a p).bind (runL b)
  | [], b, p => rfl
  | x :: a, b, p => by
    show (takeF x p).bind (runL (a ++ b)) = ((takeF x p).bind (runL a)).bind (runL b)
    cases takeF x p with
    | none => rfl
    | some q => exact runL_app a b q
theorem close_self {n : Nat} {t : Op} : ∀ {S : List Op}, S.length + 1 ≤ n → closeF n t S = some (t, S)
  | [], _ => rfl
  | u :: S, h => by
    rw [List.length_cons] at h
    rw [closeF, if_neg (by omega)]
theorem close_len {n : Nat} : ∀ {S : List Op} {t : Op} {q : Rd}, closeF n t S = some q → q.2.length ≤ S.length
  | [], t, q, h => by
    rw [closeF] at h
    cases h
    exact Nat.le_refl _
  | u :: S, t, q, h => by
    rw [closeF] at h
    split at h
    · split at h
      · cases h
      · exact Nat.le_succ_of_le (close_len h)
    · cases h
      exact Nat.le_refl _
theorem close_two {n m : Nat} (h : n ≤ m) : ∀ {S : List Op} {t : Op} {q : Rd}, closeF m t S = some q → closeF n t S = closeF n q.1 q.2
  | [], t, q, e => by
    rw [closeF] at e
    cases e
    rfl
  | u :: S, t, q, e => by
    rw [closeF] at e
    split at e
    · rename_i h1
      split at e
      · cases e
      · rename_i h2
        rw [closeF, if_pos (by omega), if_neg h2]
        exact close_two h e
    · cases e
      rfl
theorem take_line {x : Str} (hx : (tl x).head? ≠ some 32) (ho : x ≠ ("or" : Str)) {d : Nat} {p q : Rd} (h : closeF (d + 1) p.1 p.2 = some q) (hl : q.2.length = d) : takeF (indS d ++ x) p = beginF x q := by
  have hb := bare_ind hx d
  have hk : (indS d ++ x).length - (bareT (indS d ++ x)).length = 2 * d := by
    rw [hb, len_app, ind_len]
    omega
  have hlen := close_len h
  unfold takeF oddT deepT
  rw [hk, hb, if_neg (by omega), if_neg ho, show 2 * d / 2 + 1 = d + 1 by omega, h]
  rfl
theorem take_or {d : Nat} {p q : Rd} (h : closeF (d + 2) p.1 p.2 = some q) (hl : q.2.length = d + 1) : takeF (indS d ++ ("or" : Str)) p = turnF q := by
  have hb := bare_ind (x := ("or" : Str)) (by decide +kernel) d
  have hk : (indS d ++ ("or" : Str)).length - (bareT (indS d ++ ("or" : Str))).length = 2 * d := by
    rw [hb, len_app, ind_len]
    omega
  have hlen := close_len h
  unfold takeF oddT deepT
  rw [hk, hb, if_neg (by omega), if_pos rfl, show 2 * d / 2 = d by omega, if_pos (by omega), h]
  rfl
/-- integers that a text may tell -/
def tellR : Rw → Prop
  | .give _ i => i.natAbs < 10 ^ 30
  | _ => True
theorem txt_head : ∀ {e : Nat} (r : Rw), okR e r → plainR r = true → (tl (txtR r)).head? ≠ some 32 ∧ 32 ∈ tl (txtR r)
  | e, r, ok, pl => by
    have nm : ∀ (x rest : Str), NameOk x → (tl (x ++ rest)).head? ≠ some 32 := fun x rest n => by
      rw [tl_append]
      cases hq : tl x with
      | nil =>
        have := n.1
        rw [len_tl, hq] at this
        exact absurd this (by decide)
      | cons c cs =>
        have := (name_at n (c := c) (by rw [hq]; exact List.mem_cons_self)).1
        intro e
        have e : some c = some 32 := e
        have := Option.some.inj e
        omega
    have nA : NameOk ("ask" : Str) := nameB_ok (by decide +kernel)
    have nP : NameOk ("print" : Str) := nameB_ok (by decide +kernel)
    have h3 : 32 ∈ tl (" = " : Str) := by rw [tl_eq3]; decide
    have h1 : 32 ∈ tl (" " : Str) := by decide +kernel
    cases r with
    | note x o ps =>
      obtain ⟨n1, _⟩ := ok
      rw [txtR]
      simp only [app_as]
      exact ⟨nm _ _ n1, by rw [tl_append, tl_append]; exact List.mem_append_right _ (List.mem_append_left _ h3)⟩
    | copy x y =>
      obtain ⟨n1, _⟩ := ok
      rw [txtR]
      simp only [app_as]
      exact ⟨nm _ _ n1, by rw [tl_append, tl_append]; exact List.mem_append_right _ (List.mem_append_left _ h3)⟩
    | give x i =>
      have n1 : NameOk x := ok
      rw [txtR]
      simp only [app_as]
      exact ⟨nm _ _ n1, by rw [tl_append, tl_append]; exact List.mem_append_right _ (List.mem_append_left _ h3)⟩
    | ask x =>
      rw [txtR]
      simp only [app_as]
      exact ⟨nm _ _ nA, by rw [tl_append, tl_append]; exact List.mem_append_right _ (List.mem_append_left _ h1)⟩
    | prt x =>
      rw [txtR]
      simp only [app_as]
      exact ⟨nm _ _ nP, by rw [tl_append, tl_append]; exact List.mem_append_right _ (List.mem_append_left _ h1)⟩
    | either _ _ => cases pl
    | again _ => cases pl
theorem ne_word {x : Str} (h : 32 ∈ tl x) {w : Str} (hw : 32 ∉ tl w) : x ≠ w := fun e => hw (e ▸ h)
theorem run_plain {e : Nat} {r : Rw} (ok : okR e r) (pl : plainR r = true) (sm : tellR r) {d : Nat} {p q : Rd} (h : closeF (d + 1) p.1 p.2 = some q) (hl : q.2.length = d) :
    ∃ p', takeF (indS d ++ txtR r) p = some p' ∧ closeF (d + 1) p'.1 p'.2 = some (⟨q.1.kd, q.1.tk ++ [r]⟩, q.2) := by
  obtain ⟨h1, h2⟩ := txt_head r ok pl
  refine ⟨(⟨q.1.kd, q.1.tk ++ [r]⟩, q.2), ?_, close_self (by rw [hl]; exact Nat.le_refl _)⟩
  rw [take_line h1 (ne_word h2 (by decide +kernel)) h hl]
  unfold beginF
  rw [if_neg (ne_word h2 (by decide +kernel)), if_neg (ne_word h2 (by decide +kernel)), row_back r ok pl fun x i er => by rw [er] at sm; exact sm]
  rfl
mutual
theorem runR : ∀ {e : Nat} (r : Rw), okR e r → (∀ x ∈ rowsR r, tellR x) → ∀ {d : Nat} {p q : Rd}, closeF (d + 1) p.1 p.2 = some q → q.2.length = d →
    ∃ p', runL (linR d r) p = some p' ∧ closeF (d + 1) p'.1 p'.2 = some (⟨q.1.kd, q.1.tk ++ [r]⟩, q.2)
  | e, .either a c, ok, sm, d, p, q, h, hl => by
    obtain ⟨_, _, _, o1, o2⟩ := ok
    have e1 : takeF (indS d ++ ("either" : Str)) p = some (⟨.ei1, []⟩, q.1 :: q.2) := by
      rw [take_line (by decide +kernel) (by decide +kernel) h hl]
      exact if_pos rfl
    obtain ⟨p1, r1, c1⟩ := runB a o1 (fun x hx => sm x (by rw [rowsR]; exact List.mem_cons_of_mem _ (List.mem_append_left _ hx))) (d := d + 1) (p := (⟨.ei1, []⟩, q.1 :: q.2)) (q := (⟨.ei1, []⟩, q.1 :: q.2)) (close_self (by rw [List.length_cons, hl]; exact Nat.le_refl _)) (by rw [List.length_cons, hl])
    have e2 : takeF (indS d ++ ("or" : Str)) p1 = some (⟨.ei2 a, []⟩, q.1 :: q.2) := by
      rw [take_or c1 (by rw [List.length_cons, hl])]
      rfl
    obtain ⟨p2, r2, c2⟩ := runB c o2 (fun x hx => sm x (by rw [rowsR]; exact List.mem_cons_of_mem _ (List.mem_append_right _ hx))) (d := d + 1) (p := (⟨.ei2 a, []⟩, q.1 :: q.2)) (q := (⟨.ei2 a, []⟩, q.1 :: q.2)) (close_self (by rw [List.length_cons, hl]; exact Nat.le_refl _)) (by rw [List.length_cons, hl])
    refine ⟨p2, ?_, ?_⟩
    · rw [linR]
      show (takeF _ p).bind _ = _
      rw [e1]
      show runL (linB (d + 1) a ++ _) _ = _
      rw [runL_app, r1]
      show (takeF _ p1).bind _ = _
      rw [e2]
      exact r2
    · rw [close_two (show d + 1 ≤ d + 1 + 1 by omega) c2]
      show closeF (d + 1) ⟨.ei2 a, [] ++ c⟩ (q.1 :: q.2) = _
      rw [closeF, if_pos (by omega), if_neg (fun z => by cases z)]
      exact close_self (by rw [hl]; exact Nat.le_refl _)
  | e, .again a, ok, sm, d, p, q, h, hl => by
    obtain ⟨_, _, o1⟩ := ok
    have e1 : takeF (indS d ++ ("again" : Str)) p = some (⟨.ag, []⟩, q.1 :: q.2) := by
      rw [take_line (by decide +kernel) (by decide +kernel) h hl]
      unfold beginF
      rw [if_neg (by decide +kernel)]
      exact if_pos rfl
    obtain ⟨p1, r1, c1⟩ := runB a o1 (fun x hx => sm x (by rw [rowsR]; exact List.mem_cons_of_mem _ hx)) (d := d + 1) (p := (⟨.ag, []⟩, q.1 :: q.2)) (q := (⟨.ag, []⟩, q.1 :: q.2)) (close_self (by rw [List.length_cons, hl]; exact Nat.le_refl _)) (by rw [List.length_cons, hl])
    refine ⟨p1, ?_, ?_⟩
    · rw [linR]
      show (takeF _ p).bind _ = _
      rw [e1]
      exact r1
    · rw [close_two (show d + 1 ≤ d + 1 + 1 by omega) c1]
      show closeF (d + 1) ⟨.ag, [] ++ a⟩ (q.1 :: q.2) = _
      rw [closeF, if_pos (by omega), if_neg (fun z => by cases z)]
      exact close_self (by rw [hl]; exact Nat.le_refl _)
  | e, .note x o ps, ok, sm, d, p, q, h, hl => by
    obtain ⟨p', e1, c⟩ := run_plain ok rfl (sm _ List.mem_cons_self) h hl
    exact ⟨p', by rw [linR, runL, e1]; rfl, c⟩
  | e, .copy x o, ok, sm, d, p, q, h, hl => by
    obtain ⟨p', e1, c⟩ := run_plain ok rfl (sm _ List.mem_cons_self) h hl
    exact ⟨p', by rw [linR, runL, e1]; rfl, c⟩
  | e, .give x o, ok, sm, d, p, q, h, hl => by
    obtain ⟨p', e1, c⟩ := run_plain (r := .give x o) ok rfl (sm _ List.mem_cons_self) h hl
    exact ⟨p', by rw [linR, runL, e1]; rfl, c⟩
  | e, .ask x, ok, sm, d, p, q, h, hl => by
    obtain ⟨p', e1, c⟩ := run_plain (r := .ask x) ok rfl (sm _ List.mem_cons_self) h hl
    exact ⟨p', by rw [linR, runL, e1]; rfl, c⟩
  | e, .prt x, ok, sm, d, p, q, h, hl => by
    obtain ⟨p', e1, c⟩ := run_plain (r := .prt x) ok rfl (sm _ List.mem_cons_self) h hl
    exact ⟨p', by rw [linR, runL, e1]; rfl, c⟩
theorem runB : ∀ {e : Nat} (b : List Rw), okB e b → (∀ x ∈ rowsB b, tellR x) → ∀ {d : Nat} {p q : Rd}, closeF (d + 1) p.1 p.2 = some q → q.2.length = d →
    ∃ p', runL (linB d b) p = some p' ∧ closeF (d + 1) p'.1 p'.2 = some (⟨q.1.kd, q.1.tk ++ b⟩, q.2)
  | e, [], ok, sm, d, p, q, h, hl => ⟨p, by rw [linB]; rfl, by rw [h, List.append_nil]⟩
  | e, r :: b, ok, sm, d, p, q, h, hl => by
    obtain ⟨p1, r1, c1⟩ := runR r ok.1 (fun x hx => sm x (by rw [rowsB]; exact List.mem_append_left _ hx)) h hl
    obtain ⟨p2, r2, c2⟩ := runB b ok.2 (fun x hx => sm x (by rw [rowsB]; exact List.mem_append_right _ hx)) c1 hl
    refine ⟨p2, ?_, ?_⟩
    · rw [linB, runL_app, r1]
      exact r2
    · rw [c2, List.append_assoc]
      rfl
end
/-- the whole text -/
theorem read_back {b : List Rw} (ok : okB 1 b) (sm : ∀ x ∈ rowsB b, tellR x) : ∃ p, runL (linB 0 b) (⟨.base, []⟩, []) = some p ∧ closeF 1 p.1 p.2 = some (⟨.base, b⟩, []) := by
  obtain ⟨p, h1, h2⟩ := runB b ok sm (d := 0) (p := (⟨.base, []⟩, [])) (q := (⟨.base, []⟩, [])) rfl rfl
  exact ⟨p, h1, h2⟩
end PM
set_option Elab.async false
set_option linter.all false
set_option maxRecDepth 100000
set_option maxHeartbeats 4000000
/-! == of data of which one side is not deep. -/
namespace ZT
open PySem PySem.Spec PyProof.Rows L2 ZX
def rEqM (K : PySem.W.Frag) : R2 := fun x y H Q => ∃ d e, Dp K H x d ∧ Dp K H y e ∧ d.canLay0 = true ∧ e.canLay0 = true ∧ e.depth ≤ 60 ∧ Q (.bl (PyData.eqv d e)) H
theorem op_eqM {X : Cx} (hu : X.A.units + 64 < cLine) : OpR X (compareOp .Eq) (rEqM X.K) := by
  intro pins s σ H x y v u Q I rx ry h
  obtain ⟨d, e, hd, he, ld, le, hm, q⟩ := h
  obtain ⟨as, r1⟩ := Dp.reads I d x v hd rx
  obtain ⟨bs, r2⟩ := Dp.reads I e y u he ry
  refine SeqAt.compareEq_reads r1 r2 ld le ?_ ?_
  · have := Nat.min_le_right d.depth e.depth
    omega
  · exact ⟨.bl _, H, I, rfl, q⟩
end ZT
set_option Elab.async false
set_option linter.all false
set_option maxRecDepth 100000
set_option maxHeartbeats 4000000
/-! What is being read, in the heap; Opened. -/
namespace PM
open PySem PySem.Spec PyProof.Rows L2 ZX ZR ZT TL
def kdD : Knd → List PyData
  | .base => []
  | .ei1 => [.str "either"]
  | .ei2 a => [.str "either", .tuple (dB a)]
  | .ag => [.str "again"]
/-- what the classes must be -/
structure RdC (K : PySem.W.Frag) (CO CR : Addr) : Prop where
  co : Cls K CO
  o1 : NoAttr K CO "begin"
  o2 : NoAttr K CO "taken"
  cr : Cls K CR
  r1 : NoAttr K CR "opened"
def OpAt (K : PySem.W.Frag) (CO : Addr) (H : Hp) (o : Op) (e : Addr × Addr) : Prop := ∃ (dx bt : Addr) (bs us : List V), H e.1 = some (.ins CO dx [("begin", .ref bt), ("taken", .ref e.2)]) ∧ SqT K H bt bs ∧ Tvs K H bs (kdD o.kd) ∧ H e.2 = some (.lst us) ∧ Tvs K H us (o.tk.map dR)
/-- all but some lists stand -/
def Fm (M : List Addr) (H H' : Hp) : Prop := (∀ b u, b ∉ M → H b = some u → H' b = some u) ∧ ∀ b ∈ M, ∀ xs, H b = some (.lst xs) → ∃ ys, H' b = some (.lst ys)
theorem Fm.refl {M : List Addr} {H : Hp} : Fm M H H := ⟨fun _ _ _ h => h, fun _ _ xs h => ⟨xs, h⟩⟩
theorem _root_.L2.Same.fm {M : List Addr} {H H' : Hp} (s : Same H H') : Fm M H H' := ⟨fun b u _ h => s b u h, fun b _ xs h => ⟨xs, s b _ h⟩⟩
theorem Fm.trans {M : List Addr} {H H1 H2 : Hp} (a : Fm M H H1) (b : Fm M H1 H2) : Fm M H H2 := ⟨fun c u n h => b.1 c u n (a.1 c u n h), fun c m xs h => by
  obtain ⟨ys, h1⟩ := a.2 c m xs h
  exact b.2 c m ys h1⟩
theorem Fm.put {M : List Addr} {H : Hp} {a : Addr} {xs ys : List V} (ha : a ∈ M) (h : H a = some (.lst xs)) : Fm M H (upd H a (.lst ys)) := ⟨fun b u n e => by
  rw [upd_ne (fun (z : b = a) => n (by rw [z]; exact ha))]
  exact e, fun b m zs e => by
  by_cases hb : b = a
  · rw [hb]
    exact ⟨ys, upd_same⟩
  · exact ⟨zs, by rw [upd_ne hb]; exact e⟩⟩
/-- all of M are lists -/
def Lsts (M : List Addr) (H : Hp) : Prop := ∀ b ∈ M, ∃ xs, H b = some (.lst xs)
theorem Fm.pt {M : List Addr} {H H' : Hp} (l : Lsts M H) (f : Fm M H H') : Pt H H' := fun b ys hb => by
  have nm : b ∉ M := fun m => by
    obtain ⟨xs, e⟩ := l b m
    rcases hb with hb | ⟨o, hb⟩ <;> rw [e] at hb <;> cases hb
  exact hb.elim (fun h => .inl (f.1 b _ nm h)) fun ⟨o, h⟩ => .inr ⟨o, f.1 b _ nm h⟩
/-- a reader: its list of those that are opened, the innermost one last; for each its object and the list of what it took -/
structure RdAt (K : PySem.W.Frag) (CO CR : Addr) (H : Hp) (x ol : Addr) (es : List (Addr × Addr)) (p : Rd) : Prop where
  me : ∃ dx, H x = some (.ins CR dx [("opened", .ref ol)])
  li : H ol = some (.lst ((es.map fun e => V.ref e.1).reverse))
  al : All2 (OpAt K CO H) (p.1 :: p.2) es
  nd : (ol :: es.map (·.2)).Nodup
def ownL (ol : Addr) (es : List (Addr × Addr)) : List Addr := ol :: es.map (·.2)
theorem All2.at {α β : Type} {R : α → β → Prop} {b : β} : ∀ {as : List α} {bs : List β}, All2 R as bs → b ∈ bs → ∃ a ∈ as, R a b
  | _, _, .cons h t, m => by
    rcases List.mem_cons.mp m with rfl | m
    · exact ⟨_, List.mem_cons_self, h⟩
    · obtain ⟨a, ha, r⟩ := All2.at t m
      exact ⟨a, List.mem_cons_of_mem _ ha, r⟩
theorem All2.impM {α β : Type} {R S : α → β → Prop} : ∀ {as : List α} {bs : List β}, (∀ a, ∀ b ∈ bs, R a b → S a b) → All2 R as bs → All2 S as bs
  | _, _, _, .nil => .nil
  | _, _, f, .cons h t => .cons (f _ _ List.mem_cons_self h) (All2.impM (fun a b m => f a b (List.mem_cons_of_mem _ m)) t)
section
variable {K : PySem.W.Frag} {CO CR : Addr} {H H' : Hp} {x ol : Addr} {es : List (Addr × Addr)} {p : Rd}
theorem RdAt.lsts (h : RdAt K CO CR H x ol es p) : Lsts (ownL ol es) H := fun b hb => by
  rcases List.mem_cons.mp hb with rfl | hb
  · exact ⟨_, h.li⟩
  · obtain ⟨e, he, rfl⟩ := List.mem_map.mp hb
    obtain ⟨o, _, _, _, _, us, _, _, _, hl, _⟩ := All2.at h.al he
    exact ⟨us, hl⟩
theorem RdAt.insO (h : RdAt K CO CR H x ol es p) {e : Addr × Addr} (he : e ∈ es) : e.1 ∉ ownL ol es := fun m => by
  obtain ⟨xs, hx⟩ := h.lsts _ m
  obtain ⟨o, _, dx, bt, bs, us, hi, _⟩ := All2.at h.al he
  rw [hi] at hx
  cases hx
theorem RdAt.insR (h : RdAt K CO CR H x ol es p) : x ∉ ownL ol es := fun m => by
  obtain ⟨xs, hx⟩ := h.lsts _ m
  obtain ⟨dx, hi⟩ := h.me
  rw [hi] at hx
  cases hx
theorem OpAt.same {o : Op} {e : Addr × Addr} (s : Same H H') (h : OpAt K CO H o e) : OpAt K CO H' o e := by
  obtain ⟨dx, bt, bs, us, h1, h2, h3, h4, h5⟩ := h
  exact ⟨dx, bt, bs, us, s _ _ h1, s.pt.sq h2, h3.pt s.pt, s _ _ h4, h5.pt s.pt⟩
theorem RdAt.same (s : Same H H') (h : RdAt K CO CR H x ol es p) : RdAt K CO CR H' x ol es p := by
  obtain ⟨dx, hm⟩ := h.me
  exact ⟨⟨dx, s _ _ hm⟩, s _ _ h.li, h.al.imp fun _ _ o => o.same s, h.nd⟩
/-- an opened one stands while other lists change -/
theorem OpAt.keep {o : Op} {e : Addr × Addr} {a : Addr} {xs ys : List V} (ha : H a = some (.lst xs)) (ne : e.2 ≠ a) (h : OpAt K CO H o e) : OpAt K CO (upd H a (.lst ys)) o e := by
  obtain ⟨dx, bt, bs, us, h1, h2, h3, h4, h5⟩ := h
  have pt := Pt.lst (o := .lst ys) ha
  exact ⟨dx, bt, bs, us, by rw [upd_ne (fun z => by rw [z, ha] at h1; cases h1)]; exact h1, pt.sq h2, h3.pt pt, by rw [upd_ne ne]; exact h4, h5.pt pt⟩
end
/-- rows that may be laid side by side -/
def LayP (p : Rd) : Prop := ∀ o ∈ p.1 :: p.2, PyData.canLayAll0 (dB o.tk) = true ∧ PyData.canLayAll0 (kdD o.kd) = true
def szP (p : Rd) : Nat := ((p.1 :: p.2).map fun o => o.tk.length + 1).sum
end PM
namespace K05
open PySem PySem.Spec PyProof.Rows L2 ZX PM ZR ZT TL
abbrev sOpInit : Stmt := inClass (top 35) 0
abbrev sOpLacks : Stmt := inClass (top 35) 1
def spOpInit (K : PySem.W.Frag) (CO : Addr) : Sp := fun vs H Q _ => ∃ (x dx bt : Addr) (bs : List V) (k : Knd), vs = [.ref x, .ref bt] ∧ H x = some (.ins CO dx []) ∧ SqT K H bt bs ∧ Tvs K H bs (kdD k) ∧
  ∀ H' l, Kp x H H' → H l = none → OpAt K CO H' ⟨k, []⟩ (x, l) → Q .non H'
def spLacks (K : PySem.W.Frag) (CO : Addr) : Sp := fun vs H Q _ => ∃ (o : Op) (e : Addr × Addr), vs = [.ref e.1] ∧ OpAt K CO H o e ∧ PyData.canLayAll0 (kdD o.kd) = true ∧ ∀ H', Same H H' → Q (.bl (isE1 o.kd)) H'
section
variable {P : Program} {w : World} {K : PySem.W.Frag} {mg : Str → Option Value} {base : Heap} {CO CR : Addr}
theorem scOpInit : FnScope ["self", "begin"] ["self", "begin"] (defScope sOpInit) := ⟨rfl, rfl, rfl, by decide +kernel, rfl, by decide +kernel, by decide +kernel⟩
theorem ok_op_init {f : Addr} {fd : FuncData} (F : FunD K "__init__" "Opened.__init__" (defArgs sOpInit) (defBody sOpInit) (defScope sOpInit) [] [] f fd) (c : RdC K CO CR) : FnOk P w K mg base CX0 1 f fd ["self", "begin"] (spOpInit K CO) := by
  refine F.ok scOpInit (fun vs H Q E h => ?_) (fun cdv A outer s H vs Q E hr h => ?_)
  · obtain ⟨x, dx, bt, bs, k, rfl, _⟩ := h
    rfl
  · obtain ⟨x, dx, bt, bs, kd, rfl, hx, hS, ht, k⟩ := h
    refine ⟨_, PSs.nox (pss_cons (ps_fld (pv 0) (pv 1) rfl) (pss_one (ps_fld (pv 0) (pe_lst pa_nil) rfl))), ?_⟩
    refine ⟨_, rfl, _, rfl, x, CO, dx, _, rfl, hx, c.co, c.o1, (by decide), ?_⟩
    refine ⟨by decide, fun l nl => ?_⟩
    have nlx : l ≠ x := fun z => by
      rw [z, upd_same] at nl
      cases nl
    have nl0 : H l = none := by
      rw [upd_ne nlx] at nl
      exact nl
    refine ⟨_, rfl, x, CO, dx, _, rfl, by rw [upd_ne (Ne.symm nlx)]; exact upd_same, c.co, c.o2, (by show 1 < 1000; decide), ?_⟩
    have p1 := Pt.ins (o := .ins CO dx (putF "begin" (.ref bt) [])) hx
    have p2 := p1.trans (Pt.new (o := .lst []) nl)
    have p3 := p2.trans (Pt.ins (o := .ins CO dx (putF "taken" (.ref l) (putF "begin" (.ref bt) []))) (by rw [upd_ne (Ne.symm nlx)]; exact upd_same))
    refine k _ l (fun b u n e => by rw [upd_ne n, upd_ne (ne_of_none e nl0), upd_ne n]; exact e) nl0 ?_
    exact ⟨dx, bt, bs, [], upd_same, p3.sq hS, ht.pt p3, by rw [upd_ne nlx]; exact upd_same, .nil⟩
theorem scOpLacks : FnScope ["self"] ["self"] (defScope sOpLacks) := ⟨rfl, rfl, rfl, by decide +kernel, rfl, by decide +kernel, by decide +kernel⟩
theorem ok_op_lacks {f : Addr} {fd : FuncData} (F : FunD K "lacks_or" "Opened.lacks_or" (defArgs sOpLacks) (defBody sOpLacks) (defScope sOpLacks) [] [] f fd) (c : RdC K CO CR) : FnOk P w K mg base CX0 1 f fd ["self"] (spLacks K CO) := by
  refine F.ok scOpLacks (fun vs H Q E h => ?_) (fun cdv A outer s H vs Q E hr h => ?_)
  · obtain ⟨o, e, rfl, _⟩ := h
    rfl
  · obtain ⟨o, e, rfl, ⟨dx, bt, bs, us, h1, h2, h3, h4, h5⟩, hlay, k⟩ := h
    refine ⟨_, PSs.nox (pss_one (ps_ret (pe_cmpR (op_eqM hr.units) (pe_fld (pv 0) rfl) (pe_tup (pa_cons pe_str pa_nil)) (nomark _)))), ?_⟩
    refine ⟨_, rfl, _, CO, dx, _, _, rfl, h1, c.co, c.o1, rfl, by show 1 ≤ sizeLine; decide, fun q nq => ?_⟩
    have pt := Pt.new (o := .tup [V.str "either"]) nq
    have td : Tv K (upd H q (.tup [V.str "either"])) (.ref bt) (.tuple (kdD o.kd)) := .tup (pt.sq h2) (h3.pt pt)
    have te : Tv K (upd H q (.tup [V.str "either"])) (.ref q) (.tuple [.str "either"]) := .tup (.inl (.inl upd_same)) (.cons (.str _) .nil)
    refine ⟨_, _, td.dp, te.dp, hlay, by decide +kernel, by decide, ?_⟩
    have e1 : PyData.eqv (.tuple (kdD o.kd)) (.tuple [.str "either"]) = isE1 o.kd := by
      cases o.kd with
      | base => rfl
      | ei1 => decide +kernel
      | ei2 a =>
        show (PyData.eqv (.str "either") (.str "either") && false) = false
        rw [Bool.and_false]
      | ag => decide +kernel
    rw [e1]
    exact k _ (same_new nq)
end
end K05
set_option Elab.async false
set_option linter.all false
set_option maxRecDepth 100000
set_option maxHeartbeats 4000000
/-! Reader: its making, _close. -/
namespace PM
open PySem PySem.Spec PyProof.Rows L2 ZX ZR ZT TL
theorem szP_cons (t : Op) (S : List Op) : szP (t, S) = t.tk.length + 1 + (S.map fun o => o.tk.length + 1).sum := by
  show ((t :: S).map fun o => o.tk.length + 1).sum = _
  rw [List.map_cons, List.sum_cons]
theorem szP_two (t u : Op) (S : List Op) : szP (t, u :: S) = t.tk.length + 1 + szP (u, S) := by
  rw [szP_cons, szP_cons, List.map_cons, List.sum_cons]
theorem szP_len : ∀ (S : List Op) (t : Op), S.length + 1 ≤ szP (t, S)
  | [], t => by rw [szP_cons]; show 0 + 1 ≤ _; omega
  | u :: S, t => by
    have := szP_len S u
    rw [szP_two, List.length_cons]
    omega
theorem lay_rowK {k : Knd} {b : List Rw} (h1 : PyData.canLayAll0 (dB b) = true) (h2 : PyData.canLayAll0 (kdD k) = true) : (dR (rowK k b)).canLay0 = true := by
  cases k with
  | ei2 a =>
    have h3 : (PyData.strOk "either" && (PyData.canLayAll0 (dB a) && true)) = true := h2
    rw [Bool.and_true] at h3
    obtain ⟨_, h4⟩ := Bool.and_eq_true_iff.mp h3
    show (PyData.strOk "either" && (PyData.canLayAll0 (dB a) && (PyData.canLayAll0 (dB b) && true))) = true
    rw [h4, h1, show PyData.strOk "either" = true by decide +kernel]
    rfl
  | base =>
    show (PyData.strOk "again" && (PyData.canLayAll0 (dB b) && true)) = true
    rw [h1, show PyData.strOk "again" = true by decide +kernel]
    rfl
  | ei1 =>
    show (PyData.strOk "again" && (PyData.canLayAll0 (dB b) && true)) = true
    rw [h1, show PyData.strOk "again" = true by decide +kernel]
    rfl
  | ag =>
    show (PyData.strOk "again" && (PyData.canLayAll0 (dB b) && true)) = true
    rw [h1, show PyData.strOk "again" = true by decide +kernel]
    rfl
theorem lay_snoc : ∀ {b : List Rw} {r : Rw}, PyData.canLayAll0 (dB b) = true → (dR r).canLay0 = true → PyData.canLayAll0 (dB (b ++ [r])) = true
  | [], r, _, h => by
    show ((dR r).canLay0 && true) = true
    rw [h]
    rfl
  | q :: b, r, h1, h => by
    obtain ⟨h2, h3⟩ := Bool.and_eq_true_iff.mp (show ((dR q).canLay0 && PyData.canLayAll0 (dB b)) = true from h1)
    show ((dR q).canLay0 && PyData.canLayAll0 (dB (b ++ [r]))) = true
    rw [h2, lay_snoc h3 h]
    rfl
theorem LayP.top {t : Op} {S : List Op} (h : LayP (t, S)) : PyData.canLayAll0 (dB t.tk) = true ∧ PyData.canLayAll0 (kdD t.kd) = true := h t List.mem_cons_self
theorem LayP.close {t u : Op} {S : List Op} (h : LayP (t, u :: S)) : LayP (⟨u.kd, u.tk ++ [rowK t.kd t.tk]⟩, S) := fun o ho => by
  have ht := h.top
  have hu := h u (List.mem_cons_of_mem _ List.mem_cons_self)
  rcases List.mem_cons.mp ho with rfl | ho
  · exact ⟨lay_snoc hu.1 (lay_rowK ht.1 ht.2), hu.2⟩
  · exact h o (List.mem_cons_of_mem _ (List.mem_cons_of_mem _ ho))
theorem kd_row {k : Knd} {b : List Rw} (h : k ≠ .base) (h1 : k ≠ .ei1) : dR (rowK k b) = .tuple (kdD k ++ [.tuple (dB b)]) := by
  cases k with
  | base => exact absurd rfl h
  | ei1 => exact absurd rfl h1
  | ei2 a => rfl
  | ag => rfl
/-- only the outermost one has no beginning -/
def BaseP : Op → List Op → Prop
  | _, [] => True
  | t, u :: S => t.kd ≠ .base ∧ BaseP u S
theorem baseP_kd {t u : Op} (h : t.kd = u.kd) : ∀ {S : List Op}, BaseP t S → BaseP u S
  | [], _ => trivial
  | _ :: _, b => ⟨by rw [← h]; exact b.1, b.2⟩
end PM
namespace K05
open PySem PySem.Spec PyProof.Rows L2 ZX PM ZR ZT TL
abbrev sRdInit : Stmt := inClass (top 36) 0
abbrev sRdClose : Stmt := inClass (top 36) 4
/-- the class Opened, as it is made -/
structure OpMk (P : Program) (w : World) (K : PySem.W.Frag) (mg : Str → Option Value) (base : Heap) (CO : Addr) : Prop where
  ex : ∃ (f : Addr) (fd : FuncData), Mk K CO f ∧ FnOk P w K mg base CX0 1 f fd ["self", "begin"] (spOpInit K CO) ∧ Binds K fd ["self", "begin"] [] ∧ mg "Opened" = some (.ref CO)
def spRdInit (K : PySem.W.Frag) (CO CR : Addr) : Sp := fun vs H Q _ => ∃ (x dx : Addr), vs = [.ref x] ∧ H x = some (.ins CR dx []) ∧
  ∀ H' ol e, Kp x H H' → H ol = none → H e.2 = none → RdAt K CO CR H' x ol [e] (⟨.base, []⟩, []) → Q .non H'
def spClose (K : PySem.W.Frag) (CO CR : Addr) : Sp := fun vs H Q _ => ∃ (x ol : Addr) (es : List (Addr × Addr)) (p : Rd) (n : Nat), vs = [.ref x, .int n] ∧ 1 ≤ n ∧ RdAt K CO CR H x ol es p ∧ LayP p ∧ BaseP p.1 p.2 ∧ szP p ≤ 100000 ∧
  (closeF n p.1 p.2 = none → ∀ H', Fm (ownL ol es) H H' → Q (.bl false) H') ∧
  (∀ q, closeF n p.1 p.2 = some q → ∀ fs H', Fm (ownL ol es) H H' → (∀ e ∈ fs, e ∈ es) → RdAt K CO CR H' x ol fs q → Q (.bl true) H')
section
variable {P : Program} {w : World} {K : PySem.W.Frag} {mg : Str → Option Value} {base : Heap} {CO CR : Addr}
theorem scRdInit : FnScope ["self"] ["self"] (defScope sRdInit) := ⟨rfl, rfl, rfl, by decide +kernel, rfl, by decide +kernel, by decide +kernel⟩
theorem ok_rd_init {f : Addr} {fd : FuncData} (F : FunD K "__init__" "Reader.__init__" (defArgs sRdInit) (defBody sRdInit) (defScope sRdInit) [] [] f fd) (c : RdC K CO CR) (M : OpMk P w K mg base CO) : FnOk P w K mg base CX0 3 f fd ["self"] (spRdInit K CO CR) := by
  refine F.ok scRdInit (fun vs H Q E h => ?_) (fun cdv A outer s H vs Q E hr h => ?_)
  · obtain ⟨x, dx, rfl, _⟩ := h
    rfl
  · obtain ⟨x, dx, rfl, hx, k⟩ := h
    obtain ⟨fO, fdO, mk, G, bO, gO⟩ := M.ex
    refine ⟨_, PSs.nox (pss_one (ps_fld (pv 0) (pe_lst (pa_cons (pe_make mk G hr rfl gO bO .nil pass0 (pa_cons (pe_tup pa_nil) pa_nil)) pa_nil)) rfl)), ?_⟩
    refine ⟨by decide, fun t nt y dy ny ndy ne => ?_⟩
    have s0 := same_new (o := .tup []) nt
    have s1 : Same (upd H t (.tup [])) (upd (upd (upd H t (.tup [])) dy (.own y)) y (.ins CO dy [])) := fun b u e => by
      rw [upd_ne (ne_of_none e ny), upd_ne (ne_of_none e ndy)]
      exact e
    have ny0 : H y = none := s0.free ny
    refine ⟨y, dy, t, [], .base, rfl, upd_same, .inl (.inl (s1 _ _ upd_same)), .nil, fun H' l kp nl op => ⟨rfl, (by show 1 ≤ sizeLine; decide), fun ol nol => ?_⟩⟩
    have nl0 : H l = none := s0.free (s1.free nl)
    have sH : Same H H' := fun b u e => kp b u (ne_of_none e ny0) (s1 _ _ (s0 _ _ e))
    have hx' := sH _ _ hx
    have nol0 : H ol = none := sH.free nol
    obtain ⟨dy', bt, bs, us, o1, o2, o3, o4, o5⟩ := op
    have lol : l ≠ ol := fun z => by rw [z, nol] at o4; cases o4
    have yx : y ≠ x := fun z => by rw [z, hx] at ny0; cases ny0
    have lx : l ≠ x := fun z => by rw [z, hx] at nl0; cases nl0
    have olx : ol ≠ x := fun z => by rw [z, hx] at nol0; cases nol0
    have sn := same_new (o := .lst [.ref y]) nol
    refine ⟨_, rfl, x, CR, dx, _, rfl, sn _ _ hx', c.cr, c.r1, by decide, ?_⟩
    have pI := Pt.ins (o := .ins CR dx (putF "opened" (.ref ol) [])) (sn _ _ hx')
    refine k _ ol (y, l) (fun b u n e => by rw [upd_ne n]; exact sn _ _ (sH _ _ e)) nol0 nl0 ⟨⟨dx, upd_same⟩, by rw [upd_ne olx]; exact upd_same, .cons ⟨dy', bt, bs, us, by rw [upd_ne yx]; exact sn _ _ o1, pI.sq (sn.pt.sq o2), (o3.pt sn.pt).pt pI, by rw [upd_ne lx]; exact sn _ _ o4, (o5.pt sn.pt).pt pI⟩ .nil, by simpa using Ne.symm lol⟩
theorem scRdClose : FnScope ["self", "many", "inner"] ["self", "many"] (defScope sRdClose) := ⟨rfl, rfl, rfl, by decide +kernel, rfl, by decide +kernel, by decide +kernel⟩
theorem ok_close {f : Addr} {fd : FuncData} (F : FunD K "_close" "Reader._close" (defArgs sRdClose) (defBody sRdClose) (defScope sRdClose) [] [] f fd) (T : Bi mg) (c : RdC K CO CR) (C_lacks : MCal P w K mg base CO "lacks_or" 1 ["self"] (spLacks K CO)) : FnOk P w K mg base CX0 2 f fd ["self", "many"] (spClose K CO CR) := by
  refine F.ok scRdClose (fun vs H Q E h => ?_) (fun cdv A outer s H vs Q E hr h => ?_)
  · obtain ⟨x, ol, es, p, n, rfl, _⟩ := h
    rfl
  · obtain ⟨x, ol, es, p, n, rfl, hn, hR, hL, hB, hz, kn, ky⟩ := h
    refine ⟨_, PSs.nox (pss_cons (ps_while PassesOwn.never (pt_cmpR op_gt (pe_callB call_len_seq (by rfl) T.b_len (by decide +kernel) (pa_cons (pe_fld (pv 0) rfl) pa_nil)) (pv 1) (nomark _)) (pss_cut (ps_set (i := 2) scRdClose.nd rfl (Or.inl rfl) (pe_bm0 PySem.F.plainAttrs_list PySem.F.slot_list_pop PySem.F.type_list_pop mt_pop (pe_fld (pv 0) rfl)))
      (pss_cons (ps_if (pt_val (pmc0 C_lacks hr (pv 2))) (pss_one (ps_ret pe_bl)) pss_nil)
      (pss_one (ps_expr (pe_bm PySem.F.plainAttrs_list PySem.F.slot_list_append PySem.F.type_list_append mt_append (pe_fld (pe_ix ix_list (pe_fld (pv 0) rfl) (pe_un un_neg pe_int) (fun _ _ => rfl)) rfl) (pa_cons (pe_tup (StX.pa_star (pe_fld (pv 2) rfl) (pa_cons (pe_callTy call_tuple_of (by rfl) T.b_tuple (by decide +kernel) (pa_cons (pe_fld (pv 2) rfl) pa_nil)) pa_nil))) pa_nil)))))))
    (pss_one (ps_ret pe_bl))), ?_⟩
    refine ⟨fun m σ1 H1 => ∃ (t : Op) (S : List Op) (fs : List (Addr × Addr)) (y : Option V), σ1 = [some (.ref x), some (.int n), y] ∧ RdAt K CO CR H1 x ol fs (t, S) ∧ LayP (t, S) ∧ BaseP t S ∧ szP (t, S) ≤ 100000 ∧ Fm (ownL ol es) H H1 ∧ (∀ e ∈ fs, e ∈ es) ∧ closeF n t S = closeF n p.1 p.2 ∧ S.length = m,
      ⟨_, p.1, p.2, es, none, rfl, hR, hL, hB, hz, Fm.refl, fun _ h => h, rfl, rfl⟩, ?_⟩
    rintro m σ1 H1 ⟨t, S, fs, y, rfl, hR, hL, hB, hz, hF, hsub, hcl, rfl⟩
    obtain ⟨dx, hm⟩ := hR.me
    have hal := hR.al.len
    rw [List.length_cons] at hal
    refine ⟨_, rfl, x, CR, dx, _, _, rfl, hm, c.cr, c.r1, rfl, ol, _, rfl, .inl (SqL.of hR.li), _, rfl, _, _, rfl, rfl, _, rfl, ?_⟩
    rw [List.length_reverse, List.length_map, ← hal]
    by_cases hgt : n < S.length + 1
    rotate_left
    · refine ifDF (by show ¬ ((n : Int) < ((S.length + 1 : Nat) : Int)); omega) ?_
      exact ky (t, S) (by rw [← hcl]; exact close_self (by omega)) fs H1 hF hsub hR
    refine ifD (by show ((n : Int) < ((S.length + 1 : Nat) : Int)); omega) ?_
    cases S with
    | nil => exact absurd hgt (by show ¬ (n < 0 + 1); omega)
    | cons u S =>
    obtain ⟨_, hli, hall, hnd⟩ := hR
    cases hall with
    | @cons _ e0 _ fs0 op0 hall =>
    cases hall with
    | @cons _ e1 _ fs1 op1 hall =>
    have hnd2 := hnd
    rw [List.map_cons, List.map_cons, List.nodup_cons, List.nodup_cons, List.nodup_cons] at hnd2
    obtain ⟨n0, n1, n2, n3⟩ := hnd2
    have ne0 : e0.2 ≠ ol := fun z => n0 (by rw [← z]; exact List.mem_cons_self)
    have ne1 : e1.2 ≠ ol := fun z => n0 (by rw [← z]; exact List.mem_cons_of_mem _ List.mem_cons_self)
    have hli2 : H1 ol = some (.lst (((e1 :: fs1).map fun e => V.ref e.1).reverse ++ [V.ref e0.1])) := by
      rw [hli, List.map_cons, List.reverse_cons]
    have lastI : (((e1 :: fs1).map fun e => V.ref e.1).reverse ++ [V.ref e0.1])[(((e1 :: fs1).map fun e => V.ref e.1).reverse ++ [V.ref e0.1]).length - 1]? = some (V.ref e0.1) := by simp
    have dropI : (((e1 :: fs1).map fun e => V.ref e.1).reverse ++ [V.ref e0.1]).dropLast = ((e1 :: fs1).map fun e => V.ref e.1).reverse := by simp
    refine ⟨fun σ2 H2 => ∃ m', m' < (u :: S).length ∧ ∃ (t : Op) (S : List Op) (fs : List (Addr × Addr)) (y : Option V), σ2 = [some (.ref x), some (.int n), y] ∧ RdAt K CO CR H2 x ol fs (t, S) ∧ LayP (t, S) ∧ BaseP t S ∧ szP (t, S) ≤ 100000 ∧ Fm (ownL ol es) H H2 ∧ (∀ e ∈ fs, e ∈ es) ∧ closeF n t S = closeF n p.1 p.2 ∧ S.length = m', fun _ _ h => h, ?_⟩
    refine ⟨fun σ2 H2 => σ2 = [some (.ref x), some (.int n), some (.ref e0.1)] ∧ H2 = upd H1 ol (.lst ((e1 :: fs1).map fun e => V.ref e.1).reverse), ?_, ?_⟩
    · refine ⟨_, rfl, x, CR, dx, _, _, rfl, hm, c.cr, c.r1, rfl, .inl ⟨rfl, _, SqL.of hli2⟩, ol, _, _, rfl, rfl, hli2, lastI, ?_⟩
      rw [dropI]
      exact ⟨rfl, rfl⟩
    rintro σ2 H2 ⟨rfl, rfl⟩
    have hF2 : Fm (ownL ol es) H (upd H1 ol (.lst ((e1 :: fs1).map fun e => V.ref e.1).reverse)) := hF.trans (Fm.put List.mem_cons_self hli)
    have oA := op0.keep (ys := ((e1 :: fs1).map fun e => V.ref e.1).reverse) hli ne0
    have oB := op1.keep (ys := ((e1 :: fs1).map fun e => V.ref e.1).reverse) hli ne1
    have hallB : All2 (OpAt K CO (upd H1 ol (.lst ((e1 :: fs1).map fun e => V.ref e.1).reverse))) S fs1 := All2.impM (fun a b hb h => h.keep hli fun z => n0 (by rw [← z]; exact List.mem_cons_of_mem _ (List.mem_cons_of_mem _ (List.mem_map_of_mem hb)))) hall
    have hxol : x ≠ ol := fun z => by rw [z, hli] at hm; cases hm
    have hm2 : upd H1 ol (.lst ((e1 :: fs1).map fun e => V.ref e.1).reverse) x = some (.ins CR dx [("opened", .ref ol)]) := by rw [upd_ne hxol]; exact hm
    have hli3 : upd H1 ol (.lst ((e1 :: fs1).map fun e => V.ref e.1).reverse) ol = some (.lst ((e1 :: fs1).map fun e => V.ref e.1).reverse) := upd_same
    generalize upd H1 ol (.lst ((e1 :: fs1).map fun e => V.ref e.1).reverse) = H2 at *
    obtain ⟨dx0, bt0, bs0, us0, i1, i2, i3, i4, i5⟩ := oA
    refine ⟨_, rfl, e0.1, dx0, _, rfl, i1, rfl, t, e0, rfl, ⟨dx0, bt0, bs0, us0, i1, i2, i3, i4, i5⟩, hL.top.2, fun H3 s3 => ⟨_, rfl, ?_⟩⟩
    have hF3 := hF2.trans s3.fm
    cases hE : isE1 t.kd with
    | true => exact kn (by rw [← hcl, closeF, if_pos (by show n < S.length + 2; rw [List.length_cons] at hgt; omega), if_pos hE]) H3 hF3
    | false =>
    have oB3 := oB.same s3
    obtain ⟨dx1, bt1, bs1, us1, j1, j2, j3, j4, j5⟩ := oB3
    have hli4 : H3 ol = some (.lst ((fs1.map fun e => V.ref e.1).reverse ++ [V.ref e1.1])) := by
      rw [s3 _ _ hli3, List.map_cons, List.reverse_cons]
    have hat : atI ((fs1.map fun e => V.ref e.1).reverse ++ [V.ref e1.1]) (-1) = some (V.ref e1.1) := atI_last _ _
    refine ⟨_, rfl, x, CR, dx, _, _, rfl, s3 _ _ hm2, c.cr, c.r1, rfl, 1, rfl, ol, _, -1, _, rfl, rfl, SqL.of hli4, hat, e1.1, CO, dx1, _, _, rfl, j1, c.co, c.o2, rfl, .inl ⟨rfl, _, SqL.of j4⟩, ?_⟩
    refine ⟨_, rfl, e0.1, CO, dx0, _, _, rfl, s3 _ _ i1, c.co, c.o1, rfl, bt0, _, rfl, .inl (s3.pt.sq i2), _, rfl, e0.1, CO, dx0, _, _, rfl, s3 _ _ i1, c.co, c.o2, rfl, e0.2, us0, rfl, .inl ⟨SqL.of (s3 _ _ i4), fun tt ntt => ⟨?_, fun q nq => ?_⟩⟩⟩
    · have hk : bs0.length = (kdD t.kd).length := i3.len
      have hk2 : (kdD t.kd).length ≤ 2 := by cases t.kd <;> simp [kdD]
      refine lnS (n := 3) ?_
      rw [List.length_append, List.length_singleton]
      omega
    have s4 := same_new (o := .tup us0) ntt
    have s5 := same_new (o := .tup (bs0 ++ [.ref tt])) nq
    have s45 := s4.trans s5
    have s35 := s3.trans s45
    have j4' := s45 _ _ j4
    have hul := j5.len
    rw [List.length_map] at hul
    have hz2 := hz
    rw [szP_two, szP_cons] at hz2
    have hne0 : t.kd ≠ .base := hB.1
    have hne1 : t.kd ≠ .ei1 := fun z => by rw [z] at hE; cases hE
    refine ⟨e1.2, us1, _, rfl, rfl, j4', Nat.lt_of_le_of_lt (show us1.length ≤ 100000 by omega) (by decide), S.length, Nat.lt_succ_self _, ⟨u.kd, u.tk ++ [rowK t.kd t.tk]⟩, S, e1 :: fs1, _, rfl, ⟨⟨dx, ?_⟩, ?_, .cons ?_ ?_, ?_⟩, hL.close, baseP_kd (t := u) (u := ⟨u.kd, u.tk ++ [rowK t.kd t.tk]⟩) rfl hB.2, ?_, ?_, fun e he => hsub e (List.mem_cons_of_mem _ he), ?_, rfl⟩
    · rw [upd_ne (fun z => by have := s35 _ _ hm2; rw [z, j4'] at this; cases this)]
      exact s35 _ _ hm2
    · rw [upd_ne (Ne.symm ne1), s45 _ _ hli4, List.map_cons, List.reverse_cons]
    · have pt := Pt.lst (o := .lst (us1 ++ [V.ref q])) j4'
      have p5 := s45.pt.trans pt
      refine ⟨dx1, bt1, bs1, us1 ++ [V.ref q], by rw [upd_ne (fun z => by have := s45 _ _ j1; rw [z, j4'] at this; cases this)]; exact s45 _ _ j1, p5.sq j2, j3.pt p5, upd_same, ?_⟩
      have hq : RV K (upd (upd H3 tt (.tup us0)) q (.tup (bs0 ++ [V.ref tt]))) (.ref q) (rowK t.kd t.tk) := by
        show Tv K _ _ (dR (rowK t.kd t.tk))
        rw [kd_row hne0 hne1, dB_eq]
        refine .tup (.inl (.inl upd_same)) (Tvs.app (i3.pt s35.pt) (.cons (.tup (s5.pt.sq (.inl (.inl upd_same))) (i5.pt s35.pt)) .nil))
      rw [List.map_append]
      exact Tvs.app (j5.pt p5) (.cons (Tv.pt pt hq) .nil)
    · refine All2.impM (fun a b hb h => (h.same s35).keep j4' fun z => n2 (by rw [← z]; exact List.mem_map_of_mem hb)) hallB
    · rw [List.map_cons, List.nodup_cons, List.nodup_cons]
      exact ⟨fun m => n0 (List.mem_cons_of_mem _ m), n2, n3⟩
    · rw [szP_cons, List.length_append, List.length_singleton]
      omega
    · refine (hF3.trans s45.fm).trans (Fm.put (List.mem_cons_of_mem _ (List.mem_map_of_mem (hsub e1 (List.mem_cons_of_mem _ List.mem_cons_self)))) j4')
    · rw [← hcl]
      conv => rhs; rw [closeF]
      rw [if_pos (by show n < S.length + 2; rw [List.length_cons] at hgt; omega), if_neg (by rw [hE]; decide)]
end
end K05
set_option Elab.async false
set_option linter.all false
set_option maxRecDepth 100000
set_option maxHeartbeats 4000000
/-! Reader: over, rows, _turn, _begin. -/
namespace K05
open PySem PySem.Spec PyProof.Rows L2 ZX PM ZR ZT TL
abbrev sRdOver : Stmt := inClass (top 36) 2
abbrev sRdRows : Stmt := inClass (top 36) 3
abbrev sRdTurn : Stmt := inClass (top 36) 5
abbrev sRdBegin : Stmt := inClass (top 36) 6
/-- what is due where r tells what will have been read -/
def RdRes (K : PySem.W.Frag) (CO CR : Addr) (H : Hp) (x ol : Addr) (es : List (Addr × Addr)) (r : Option Rd) (Q : VK) : Prop :=
  (r = none → ∀ H', Fm (ownL ol es) H H' → Q (.bl false) H') ∧
  (∀ q, r = some q → ∀ fs H', Fm (ownL ol es) H H' → (∀ e ∈ fs, e ∈ es ∨ H e.2 = none) → RdAt K CO CR H' x ol fs q → Q (.bl true) H')
def spOver (K : PySem.W.Frag) (CO CR : Addr) : Sp := fun vs H Q _ => ∃ (x ol : Addr) (es : List (Addr × Addr)) (p : Rd), vs = [.ref x] ∧ RdAt K CO CR H x ol es p ∧ LayP p ∧ BaseP p.1 p.2 ∧ szP p ≤ 100000 ∧ RdRes K CO CR H x ol es (closeF 1 p.1 p.2) Q
def spRdRows (K : PySem.W.Frag) (CO CR : Addr) : Sp := fun vs H Q _ => ∃ (x ol : Addr) (es : List (Addr × Addr)) (t : Op), vs = [.ref x] ∧ RdAt K CO CR H x ol es (t, []) ∧ t.tk.length ≤ 100000 ∧ ∀ v H', Same H H' → BV K H' v t.tk → Q v H'
def spTurn (K : PySem.W.Frag) (CO CR : Addr) : Sp := fun vs H Q _ => ∃ (x ol : Addr) (es : List (Addr × Addr)) (p : Rd), vs = [.ref x] ∧ RdAt K CO CR H x ol es p ∧ LayP p ∧ szP p ≤ 100000 ∧ RdRes K CO CR H x ol es (turnF p) Q
def spBegin (K : PySem.W.Frag) (CO CR : Addr) : Sp := fun vs H Q _ => ∃ (x ol : Addr) (es : List (Addr × Addr)) (p : Rd) (tx : Str), vs = [.ref x, .str tx] ∧ tx.length ≤ 90000 ∧ RdAt K CO CR H x ol es p ∧ szP p ≤ 100000 ∧ RdRes K CO CR H x ol es (beginF tx p) Q
section
variable {P : Program} {w : World} {K : PySem.W.Frag} {mg : Str → Option Value} {base : Heap} {CO CR : Addr}
theorem scRdOver : FnScope ["self"] ["self"] (defScope sRdOver) := ⟨rfl, rfl, rfl, by decide +kernel, rfl, by decide +kernel, by decide +kernel⟩
theorem ok_over {f : Addr} {fd : FuncData} (F : FunD K "over" "Reader.over" (defArgs sRdOver) (defBody sRdOver) (defScope sRdOver) [] [] f fd) (C_close : MCal P w K mg base CR "_close" 2 ["self", "many"] (spClose K CO CR)) : FnOk P w K mg base CX0 3 f fd ["self"] (spOver K CO CR) := by
  refine F.ok scRdOver (fun vs H Q E h => ?_) (fun cdv A outer s H vs Q E hr h => ?_)
  · obtain ⟨x, ol, es, p, rfl, _⟩ := h
    rfl
  · obtain ⟨x, ol, es, p, rfl, hR, hL, hB, hz, kn, ky⟩ := h
    obtain ⟨dx, hm⟩ := hR.me
    refine ⟨_, PSs.nox (pss_one (ps_ret (pmc C_close hr (pv 0) (pa_cons pe_int pa_nil)))), ?_⟩
    exact ⟨_, rfl, x, dx, _, rfl, hm, rfl, x, ol, es, p, 1, rfl, by decide, hR, hL, hB, hz, kn, fun q e fs H' hF hs hR' => ky q e fs H' hF (fun e he => .inl (hs e he)) hR'⟩
theorem scRdRows : FnScope ["self"] ["self"] (defScope sRdRows) := ⟨rfl, rfl, rfl, by decide +kernel, rfl, by decide +kernel, by decide +kernel⟩
theorem ok_rd_rows {f : Addr} {fd : FuncData} (F : FunD K "rows" "Reader.rows" (defArgs sRdRows) (defBody sRdRows) (defScope sRdRows) [] [] f fd) (T : Bi mg) (c : RdC K CO CR) : FnOk P w K mg base CX0 1 f fd ["self"] (spRdRows K CO CR) := by
  refine F.ok scRdRows (fun vs H Q E h => ?_) (fun cdv A outer s H vs Q E hr h => ?_)
  · obtain ⟨x, ol, es, t, rfl, _⟩ := h
    rfl
  · obtain ⟨x, ol, es, t, rfl, ⟨⟨dx, hm⟩, hli, hall, hnd⟩, hz, k⟩ := h
    cases hall with
    | @cons _ e0 _ fs0 op0 hall =>
    cases hall
    obtain ⟨dx0, bt, bs, us, i1, i2, i3, i4, i5⟩ := op0
    refine ⟨_, PSs.nox (pss_one (ps_ret (pe_callTy call_tuple_of (by rfl) T.b_tuple (by decide +kernel) (pa_cons (pe_fld (pe_ix ix_list (pe_fld (pv 0) rfl) pe_int (fun _ _ => rfl)) rfl) pa_nil)))), ?_⟩
    refine ⟨_, rfl, x, CR, dx, _, _, rfl, hm, c.cr, c.r1, rfl, ol, _, 0, _, rfl, rfl, SqL.of hli, at0, e0.1, CO, dx0, _, _, rfl, i1, c.co, c.o2, rfl, e0.2, us, rfl, .inl ⟨SqL.of i4, fun q nq => ?_⟩⟩
    have s1 := same_new (o := .tup us) nq
    refine k _ _ s1 (.tup (.inl (.inl upd_same)) ?_)
    rw [dB_eq]
    exact i5.pt s1.pt
theorem scRdTurn : FnScope ["self", "first"] ["self"] (defScope sRdTurn) := ⟨rfl, rfl, rfl, by decide +kernel, rfl, by decide +kernel, by decide +kernel⟩
theorem ok_turn {f : Addr} {fd : FuncData} (F : FunD K "_turn" "Reader._turn" (defArgs sRdTurn) (defBody sRdTurn) (defScope sRdTurn) [] [] f fd) (T : Bi mg) (c : RdC K CO CR) (M : OpMk P w K mg base CO) (C_lacks : MCal P w K mg base CO "lacks_or" 1 ["self"] (spLacks K CO)) : FnOk P w K mg base CX0 3 f fd ["self"] (spTurn K CO CR) := by
  refine F.ok scRdTurn (fun vs H Q E h => ?_) (fun cdv A outer s H vs Q E hr h => ?_)
  · obtain ⟨x, ol, es, p, rfl, _⟩ := h
    rfl
  · obtain ⟨x, ol, es, ⟨t, S⟩, rfl, hR, hL, hz, kn, ky⟩ := h
    obtain ⟨fO, fdO, mk, G, bO, gO⟩ := M.ex
    refine ⟨_, PSs.nox (pss_cut (ps_set (i := 1) scRdTurn.nd rfl (Or.inl rfl) (pe_bm0 PySem.F.plainAttrs_list PySem.F.slot_list_pop PySem.F.type_list_pop mt_pop (pe_fld (pv 0) rfl)))
    (pss_cut (ps_expr (pe_bm PySem.F.plainAttrs_list PySem.F.slot_list_append PySem.F.type_list_append mt_append (pe_fld (pv 0) rfl) (pa_cons (pe_make mk G hr rfl gO bO .nil pass0 (pa_cons (pe_tup (pa_cons pe_str (pa_cons (pe_callTy call_tuple_of (by rfl) T.b_tuple (by decide +kernel) (pa_cons (pe_fld (pv 1) rfl) pa_nil)) pa_nil))) pa_nil)) pa_nil)))
    (pss_one (ps_ret (pmc0 C_lacks (hr.mono (by decide)) (pv 1)))))), ?_⟩
    obtain ⟨⟨dx, hm⟩, hli, hall, hnd⟩ := hR
    have hal := hall.len
    cases hall with
    | @cons _ e0 _ fs op0 hall =>
    have hnd2 := hnd
    rw [List.map_cons, List.nodup_cons, List.nodup_cons] at hnd2
    obtain ⟨n0, n1, n2⟩ := hnd2
    have ne0 : e0.2 ≠ ol := fun z => n0 (by rw [← z]; exact List.mem_cons_self)
    have hli2 : H ol = some (.lst ((fs.map fun e => V.ref e.1).reverse ++ [V.ref e0.1])) := by
      rw [hli, List.map_cons, List.reverse_cons]
    refine ⟨fun σ2 H2 => σ2 = [some (.ref x), some (.ref e0.1)] ∧ H2 = upd H ol (.lst (fs.map fun e => V.ref e.1).reverse), ?_, ?_⟩
    · have lastI : ((fs.map fun e => V.ref e.1).reverse ++ [V.ref e0.1])[((fs.map fun e => V.ref e.1).reverse ++ [V.ref e0.1]).length - 1]? = some (V.ref e0.1) := by simp
      refine ⟨_, rfl, x, CR, dx, _, _, rfl, hm, c.cr, c.r1, rfl, .inl ⟨rfl, _, SqL.of hli2⟩, ol, _, _, rfl, rfl, hli2, lastI, ?_⟩
      exact ⟨rfl, by simp⟩
    rintro σ2 H2 ⟨rfl, rfl⟩
    have hF2 : Fm (ownL ol (e0 :: fs)) H (upd H ol (.lst (fs.map fun e => V.ref e.1).reverse)) := Fm.put List.mem_cons_self hli
    have oA := op0.keep (ys := (fs.map fun e => V.ref e.1).reverse) hli ne0
    have hallB : All2 (OpAt K CO (upd H ol (.lst (fs.map fun e => V.ref e.1).reverse))) S fs := All2.impM (fun a b hb h => h.keep hli fun z => n0 (by rw [← z]; exact List.mem_cons_of_mem _ (List.mem_map_of_mem hb))) hall
    have hxol : x ≠ ol := fun z => by rw [z, hli] at hm; cases hm
    have hm2 : upd H ol (.lst (fs.map fun e => V.ref e.1).reverse) x = some (.ins CR dx [("opened", .ref ol)]) := by rw [upd_ne hxol]; exact hm
    have hli3 : upd H ol (.lst (fs.map fun e => V.ref e.1).reverse) ol = some (.lst (fs.map fun e => V.ref e.1).reverse) := upd_same
    have hnone : ∀ b, upd H ol (.lst (fs.map fun e => V.ref e.1).reverse) b = none → H b = none := fun b hb => by
      by_cases z : b = ol
      · rw [z, hli3] at hb
        cases hb
      · rw [upd_ne z] at hb
        exact hb
    generalize upd H ol (.lst (fs.map fun e => V.ref e.1).reverse) = H2 at *
    obtain ⟨dx0, bt0, bs0, us0, i1, i2, i3, i4, i5⟩ := oA
    have hul := i5.len
    rw [List.length_map] at hul
    have hz2 := hz
    rw [szP_cons] at hz2
    refine ⟨fun σ3 H3 => σ3 = [some (.ref x), some (.ref e0.1)] ∧ Fm (ownL ol (e0 :: fs)) H H3 ∧ OpAt K CO H3 t e0 ∧ ∃ e, H e.2 = none ∧ RdAt K CO CR H3 x ol (e :: fs) (⟨.ei2 t.tk, []⟩, S), ?_, ?_⟩
    · refine ⟨_, rfl, x, CR, dx, _, _, rfl, hm2, c.cr, c.r1, rfl, .inl ⟨rfl, _, SqL.of hli3⟩, ?_⟩
      refine ⟨_, rfl, e0.1, CO, dx0, _, _, rfl, i1, c.co, c.o2, rfl, e0.2, us0, rfl, .inl ⟨SqL.of i4, fun tt ntt => ⟨by show 2 ≤ sizeLine; decide, fun q nq y dy ny ndy ne => ?_⟩⟩⟩
      have s1 := (same_new (o := .tup us0) ntt).trans (same_new (o := .tup [V.str "either", V.ref tt]) nq)
      generalize hH4 : upd (upd H2 tt (.tup us0)) q (.tup [V.str "either", V.ref tt]) = H4 at *
      have s2 : Same H4 (upd (upd H4 dy (.own y)) y (.ins CO dy [])) := fun b u e => by
        rw [upd_ne (ne_of_none e ny), upd_ne (ne_of_none e ndy)]
        exact e
      have hq : H4 q = some (.tup [V.str "either", V.ref tt]) := by rw [← hH4]; exact upd_same
      have htt : H4 tt = some (.tup us0) := by
        rw [← hH4]
        exact same_new nq _ _ upd_same
      have pt2 := s2.pt
      refine ⟨y, dy, q, _, .ei2 t.tk, rfl, upd_same, .inl (.inl (s2 _ _ hq)), .cons (.str _) (.cons (.tup (.inl (.inl (s2 _ _ htt))) ?_) .nil), fun H5 l kp nl op => ⟨rfl, ?_⟩⟩
      · rw [dB_eq]
        exact (i5.pt s1.pt).pt s2.pt
      have ny2 : H2 y = none := s1.free ny
      have s25 : Same H2 H5 := fun b u e => kp b u (ne_of_none e ny2) (s2 _ _ (s1 _ _ e))
      have nl2 : H2 l = none := s1.free (s2.free nl)
      have hli5 := s25 _ _ hli3
      refine ⟨ol, _, _, rfl, rfl, hli5, Nat.lt_of_le_of_lt (show _ ≤ 100000 by rw [List.length_reverse, List.length_map]; have := szP_len S t; have hal2 : S.length = fs.length := Nat.succ.inj hal; omega) (by decide), rfl, ?_, ?_, (y, l), hnone _ nl2, ⟨dx, ?_⟩, ?_, .cons ?_ ?_, ?_⟩
      · exact (hF2.trans s25.fm).trans (Fm.put List.mem_cons_self hli5)
      · exact (OpAt.same s25 ⟨dx0, bt0, bs0, us0, i1, i2, i3, i4, i5⟩).keep hli5 ne0
      · rw [upd_ne hxol]
        exact s25 _ _ hm2
      · rw [upd_same, List.map_cons, List.reverse_cons]
      · exact op.keep hli5 fun z => by
          have z : l = ol := z
          rw [z, hli3] at nl2
          cases nl2
      · exact All2.impM (fun a b hb h => (h.same s25).keep hli5 fun z => n0 (by rw [← z]; exact List.mem_cons_of_mem _ (List.mem_map_of_mem hb))) hallB
      · rw [List.map_cons, List.nodup_cons, List.nodup_cons]
        refine ⟨fun m => ?_, fun m => ?_, n2⟩
        · rcases List.mem_cons.mp m with z | m
          · have z : ol = l := z
            rw [← z, hli3] at nl2
            cases nl2
          · exact n0 (List.mem_cons_of_mem _ m)
        · obtain ⟨e, he, z⟩ := List.mem_map.mp m
          obtain ⟨o, _, _, _, _, us, _, _, _, hl, _⟩ := All2.at hallB he
          have z : e.2 = l := z
          rw [z, nl2] at hl
          cases hl
    · rintro σ3 H3 ⟨rfl, hF3, oA3, e, ne, hR3⟩
      obtain ⟨dx3, bt3, bs3, us3, j1, j2, j3, j4, j5⟩ := oA3
      refine ⟨_, rfl, e0.1, dx3, _, rfl, j1, rfl, t, e0, rfl, ⟨dx3, bt3, bs3, us3, j1, j2, j3, j4, j5⟩, hL.top.2, fun H5 s5 => ?_⟩
      cases hE : isE1 t.kd with
      | false => exact kn (by unfold turnF; rw [if_neg (by rw [hE]; decide)]) H5 (hF3.trans s5.fm)
      | true =>
        refine ky _ (by unfold turnF; rw [if_pos hE]) (e :: fs) H5 (hF3.trans s5.fm) (fun a ha => ?_) (hR3.same s5)
        rcases List.mem_cons.mp ha with rfl | ha
        · exact .inr ne
        · exact .inl (List.mem_cons_of_mem _ ha)
end
end K05
set_option Elab.async false
set_option linter.all false
set_option maxRecDepth 100000
set_option maxHeartbeats 4000000
/-! Reader._begin. -/
namespace K05
open PySem PySem.Spec PyProof.Rows L2 ZX PM ZR ZT TL
section
variable {P : Program} {w : World} {K : PySem.W.Frag} {mg : Str → Option Value} {base : Heap} {CO CR : Addr}
theorem scRdBegin : FnScope ["self", "text", "row"] ["self", "text"] (defScope sRdBegin) := ⟨rfl, rfl, rfl, by decide +kernel, rfl, by decide +kernel, by decide +kernel⟩
theorem ok_begin {f : Addr} {fd : FuncData} (F : FunD K "_begin" "Reader._begin" (defArgs sRdBegin) (defBody sRdBegin) (defScope sRdBegin) [] [] f fd) (T : Bi mg) (c : RdC K CO CR) (M : OpMk P w K mg base CO) (C_row : Cal P w K mg base "read_row" 3 ["text"] (spReadRow K)) : FnOk P w K mg base CX0 4 f fd ["self", "text"] (spBegin K CO CR) := by
  refine F.ok scRdBegin (fun vs H Q E h => ?_) (fun cdv A outer s H vs Q E hr h => ?_)
  · obtain ⟨x, ol, es, p, tx, rfl, _⟩ := h
    rfl
  · obtain ⟨x, ol, es, ⟨t, S⟩, tx, rfl, hlen, hR, hz, kn, ky⟩ := h
    obtain ⟨fO, fdO, mk, G, bO, gO⟩ := M.ex
    refine ⟨_, PSs.nox (pss_cons (ps_if (pt_cmpR op_in_seq (pv 1) (pe_tup (pa_cons pe_str (pa_cons pe_str pa_nil))) (by with_unfolding_all rfl))
      (pss_cut (ps_expr (pe_bm PySem.F.plainAttrs_list PySem.F.slot_list_append PySem.F.type_list_append mt_append (pe_fld (pv 0) rfl) (pa_cons (pe_make mk G (hr.mono (by decide)) rfl gO bO .nil pass0 (pa_cons (pe_tup (pa_cons (pv 1) pa_nil)) pa_nil)) pa_nil)))
      (pss_one (ps_ret pe_bl))) pss_nil)
    (pss_cut (ps_set (i := 2) scRdBegin.nd rfl (Or.inl rfl) (pcal C_row hr rfl (pa_cons (pv 1) pa_nil)))
    (pss_cut (ps_expr (pe_bm PySem.F.plainAttrs_list PySem.F.slot_list_append PySem.F.type_list_append mt_append (pe_fld (pe_ix ix_list (pe_fld (pv 0) rfl) (pe_un un_neg pe_int) (fun _ _ => rfl)) rfl) (pa_cons (pv 2) pa_nil)))
    (pss_one (ps_ret (pe_cmpR op_notN (pv 2) pe_non (nomark _))))))), ?_⟩
    have hal := hR.al.len
    have hal : S.length + 1 = es.length := hal
    have hz2 := szP_len S t
    refine ⟨_, rfl, by decide, fun q0 nq0 => ?_⟩
    have s0 := same_new (o := .tup [V.str "either", V.str "again"]) nq0
    refine ⟨_, _, rfl, .inr (.inl (.inl upd_same)), rfl, rfl, _, rfl, ?_⟩
    have hR0 := hR.same s0
    generalize hH0 : upd H q0 (.tup [V.str "either", V.str "again"]) = H0 at *
    have ei : inV (V.str tx) [V.str "either", V.str "again"] = (tx == ("either" : Str) || tx == ("again" : Str)) := by
      show (Str.ofString "either" == tx || (Str.ofString "again" == tx || false)) = _
      rw [Bool.or_false, BEq.comm, BEq.comm (a := Str.ofString "again")]
    show if inV (V.str tx) [V.str "either", V.str "again"] = true then _ else _
    rw [ei]
    have oth : ∀ k : Knd, (tx = ("either" : Str) ∧ k = .ei1 ∨ tx = ("again" : Str) ∧ k = .ag) → kdD k = [.str tx] ∧ beginF tx (t, S) = some (⟨k, []⟩, t :: S) := fun k hk => by
      rcases hk with ⟨rfl, rfl⟩ | ⟨rfl, rfl⟩
      · exact ⟨rfl, by unfold beginF; rw [if_pos rfl]⟩
      · exact ⟨rfl, by unfold beginF; rw [if_neg (by decide +kernel), if_pos rfl]⟩
    cases hw : (tx == ("either" : Str) || tx == ("again" : Str)) with
    | true =>
      rw [if_pos rfl]
      have hk : ∃ k : Knd, (tx = ("either" : Str) ∧ k = .ei1 ∨ tx = ("again" : Str) ∧ k = .ag) := by
        rcases Bool.or_eq_true_iff.mp hw with h1 | h1
        · exact ⟨_, .inl ⟨eq_of_beq h1, rfl⟩⟩
        · exact ⟨_, .inr ⟨eq_of_beq h1, rfl⟩⟩
      obtain ⟨k, hk⟩ := hk
      obtain ⟨hkd, hbe⟩ := oth k hk
      obtain ⟨⟨dx, hm⟩, hli, hall, hnd⟩ := hR0
      refine ⟨fun σ3 H3 => σ3 = [some (.ref x), some (.str tx), none] ∧ Fm (ownL ol es) H0 H3 ∧ ∃ e, H0 e.2 = none ∧ RdAt K CO CR H3 x ol (e :: es) (⟨k, []⟩, t :: S), ?_, ?_⟩
      · refine ⟨_, rfl, x, CR, dx, _, _, rfl, hm, c.cr, c.r1, rfl, .inl ⟨rfl, _, SqL.of hli⟩, ?_⟩
        refine ⟨_, rfl, by show 1 ≤ sizeLine; decide, fun q nq y dy ny ndy ne => ?_⟩
        have s1 := same_new (o := .tup [V.str tx]) nq
        have hq : upd H0 q (.tup [V.str tx]) q = some (.tup [V.str tx]) := upd_same
        generalize hH4 : upd H0 q (.tup [V.str tx]) = H4 at *
        have s2 : Same H4 (upd (upd H4 dy (.own y)) y (.ins CO dy [])) := fun b u e => by
          rw [upd_ne (ne_of_none e ny), upd_ne (ne_of_none e ndy)]
          exact e
        refine ⟨y, dy, q, _, k, rfl, upd_same, .inl (.inl (s2 _ _ hq)), by rw [hkd]; exact .cons (.str _) .nil, fun H5 l kp nl op => ⟨rfl, ?_⟩⟩
        have ny2 : H0 y = none := s1.free ny
        have s25 : Same H0 H5 := fun b u e => kp b u (ne_of_none e ny2) (s2 _ _ (s1 _ _ e))
        have nl2 : H0 l = none := s1.free (s2.free nl)
        have hli5 := s25 _ _ hli
        have hlol : l ≠ ol := fun z => by rw [z, hli] at nl2; cases nl2
        refine ⟨ol, _, _, rfl, rfl, hli5, Nat.lt_of_le_of_lt (show _ ≤ 100000 by rw [List.length_reverse, List.length_map]; omega) (by decide), rfl, s25.fm.trans (Fm.put List.mem_cons_self hli5), (y, l), nl2, ⟨dx, ?_⟩, ?_, .cons ?_ ?_, ?_⟩
        · rw [upd_ne (fun z => by rw [z, hli] at hm; cases hm)]
          exact s25 _ _ hm
        · rw [upd_same, List.map_cons, List.reverse_cons]
        · exact op.keep hli5 hlol
        · have hnd0 := List.nodup_cons.mp hnd
          exact All2.impM (fun a b hb h => (h.same s25).keep hli5 fun z => hnd0.1 (by rw [← z]; exact List.mem_map_of_mem hb)) hall
        · have hnd0 := List.nodup_cons.mp hnd
          rw [List.map_cons, List.nodup_cons, List.nodup_cons]
          refine ⟨fun m => ?_, fun m => ?_, hnd0.2⟩
          · rcases List.mem_cons.mp m with z | m
            · exact hlol z.symm
            · exact hnd0.1 m
          · obtain ⟨e, he, z⟩ := List.mem_map.mp m
            obtain ⟨o, _, _, _, _, us, _, _, _, hl, _⟩ := All2.at hall he
            have z : e.2 = l := z
            rw [z, nl2] at hl
            cases hl
      · rintro σ3 H3 ⟨rfl, hF3, e, ne, hR3⟩
        refine ky _ hbe (e :: es) H3 (s0.fm.trans hF3) (fun a ha => ?_) hR3
        rcases List.mem_cons.mp ha with rfl | ha
        · exact .inr (s0.free ne)
        · exact .inl ha
    | false =>
      rw [if_neg (by decide)]
      obtain ⟨h1, h2⟩ := Bool.or_eq_false_iff.mp hw
      have hbe : beginF tx (t, S) = (rowOf tx).map fun r => (⟨t.kd, t.tk ++ [r]⟩, S) := by
        unfold beginF
        rw [if_neg (by simpa using h1), if_neg (by simpa using h2)]
      refine ⟨fun σ2 H2 => ∃ v, σ2 = [some (.ref x), some (.str tx), some v] ∧ Same H H2 ∧ OptR K H2 v (rowOf tx), ?_, ?_⟩
      · exact ⟨_, rfl, tx, rfl, hlen, fun v H2 s2 ho => ⟨v, rfl, s0.trans s2, ho⟩⟩
      rintro σ2 H2 ⟨v, rfl, s2, ho⟩
      obtain ⟨⟨dx, hm⟩, hli, hall, hnd⟩ := hR.same s2
      cases hall with
      | @cons _ e1 _ fs1 op1 hall =>
      obtain ⟨dx1, bt1, bs1, us1, j1, j2, j3, j4, j5⟩ := op1
      have hnd2 := hnd
      rw [List.map_cons, List.nodup_cons, List.nodup_cons] at hnd2
      obtain ⟨n0, n1, n2⟩ := hnd2
      have hli4 : H2 ol = some (.lst ((fs1.map fun e => V.ref e.1).reverse ++ [V.ref e1.1])) := by
        rw [hli, List.map_cons, List.reverse_cons]
      have hat : atI ((fs1.map fun e => V.ref e.1).reverse ++ [V.ref e1.1]) (-1) = some (V.ref e1.1) := atI_last _ _
      have hul := j5.len
      rw [List.length_map] at hul
      have hul : us1.length = t.tk.length := by first | exact hul | exact hul.symm
      rw [szP_cons] at hz
      refine ⟨fun σ3 H3 => σ3 = [some (.ref x), some (.str tx), some v] ∧ H3 = upd H2 e1.2 (.lst (us1 ++ [v])), ?_, ?_⟩
      · refine ⟨_, rfl, x, CR, dx, _, _, rfl, hm, c.cr, c.r1, rfl, 1, rfl, ol, _, -1, _, rfl, rfl, SqL.of hli4, hat, e1.1, CO, dx1, _, _, rfl, j1, c.co, c.o2, rfl, .inl ⟨rfl, _, SqL.of j4⟩, ?_⟩
        refine ⟨_, rfl, e1.2, us1, _, rfl, rfl, j4, Nat.lt_of_le_of_lt (show us1.length ≤ 100000 by omega) (by decide), rfl, rfl⟩
      rintro σ3 H3 ⟨rfl, rfl⟩
      have hF : Fm (ownL ol (e1 :: fs1)) H (upd H2 e1.2 (.lst (us1 ++ [v]))) := s2.fm.trans (Fm.put (List.mem_cons_of_mem _ List.mem_cons_self) j4)
      cases hro : rowOf tx with
      | none =>
        rw [hro] at ho hbe
        have ho : v = .non := ho
        subst ho
        exact ⟨_, rfl, rfl, kn (by rw [hbe]; rfl) _ hF⟩
      | some r =>
        rw [hro] at ho hbe
        have ho : RV K H2 v r := ho
        obtain ⟨a, tl, rfl, _⟩ := ho.rowI
        refine ⟨_, rfl, rfl, ?_⟩
        have pt := Pt.lst (o := .lst (us1 ++ [V.ref a])) j4
        refine ky (⟨t.kd, t.tk ++ [r]⟩, S) (by rw [hbe]; rfl) (e1 :: fs1) _ hF (fun e he => .inl he) ⟨⟨dx, ?_⟩, ?_, .cons ?_ ?_, hnd⟩
        · rw [upd_ne (fun z => by rw [z, j4] at hm; cases hm)]
          exact hm
        · rw [upd_ne (fun z => n0 (by rw [z]; exact List.mem_cons_self))]
          exact hli
        · refine ⟨dx1, bt1, bs1, us1 ++ [V.ref a], by rw [upd_ne (fun z => by rw [z, j4] at j1; cases j1)]; exact j1, pt.sq j2, j3.pt pt, upd_same, ?_⟩
          rw [List.map_append]
          exact Tvs.app (j5.pt pt) (.cons (Tv.pt pt ho) .nil)
        · exact All2.impM (fun b e hb h => h.keep j4 fun z => n1 (by rw [← z]; exact List.mem_map_of_mem hb)) hall
end
end K05
set_option Elab.async false
set_option linter.all false
set_option maxRecDepth 100000
set_option maxHeartbeats 4000000
/-! Reader.take. -/
namespace PM
open PySem PySem.Spec PyProof.Rows L2 ZX ZR ZT TL
theorem Fm.mono {M M' : List Addr} {H H' : Hp} (h : ∀ b ∈ M, b ∈ M') (f : Fm M H H') : Fm M' H H' := ⟨fun b u n e => f.1 b u (fun m => n (h b m)) e, fun b m xs e => by
  by_cases hb : b ∈ M
  · exact f.2 b hb xs e
  · exact ⟨xs, f.1 b _ hb e⟩⟩
theorem Fm.free {M : List Addr} {H H' : Hp} (l : Lsts M H) (f : Fm M H H') {b : Addr} (h : H' b = none) : H b = none := by
  cases e : H b with
  | none => rfl
  | some u =>
    by_cases m : b ∈ M
    · obtain ⟨xs, ex⟩ := l b m
      obtain ⟨ys, ey⟩ := f.2 b m xs ex
      rw [ey] at h
      cases h
    · rw [f.1 b u m e] at h
      cases h
theorem own_sub {ol : Addr} {fs es : List (Addr × Addr)} (h : ∀ e ∈ fs, e ∈ es) : ∀ b ∈ ownL ol fs, b ∈ ownL ol es := fun b m => by
  rcases List.mem_cons.mp m with rfl | m
  · exact List.mem_cons_self
  · obtain ⟨e, he, rfl⟩ := List.mem_map.mp m
    exact List.mem_cons_of_mem _ (List.mem_map_of_mem (h e he))
theorem close_keep {n : Nat} : ∀ {S : List Op} {t : Op} {q : Rd}, closeF n t S = some q → LayP (t, S) → BaseP t S → LayP q ∧ BaseP q.1 q.2 ∧ szP q ≤ szP (t, S)
  | [], t, q, e, hl, hb => by
    rw [closeF] at e
    cases e
    exact ⟨hl, hb, Nat.le_refl _⟩
  | u :: S, t, q, e, hl, hb => by
    rw [closeF] at e
    split at e
    · split at e
      · cases e
      · obtain ⟨a, b, c⟩ := close_keep e hl.close (baseP_kd (t := u) (u := ⟨u.kd, u.tk ++ [rowK t.kd t.tk]⟩) rfl hb.2)
        refine ⟨a, b, Nat.le_trans c ?_⟩
        rw [szP_cons, szP_two, szP_cons, List.length_append, List.length_singleton]
        omega
    · cases e
      exact ⟨hl, hb, Nat.le_refl _⟩
end PM
namespace K05
open PySem PySem.Spec PyProof.Rows L2 ZX PM ZR ZT TL
abbrev sRdTake : Stmt := inClass (top 36) 1
def spTake (K : PySem.W.Frag) (CO CR : Addr) : Sp := fun vs H Q _ => ∃ (x ol : Addr) (es : List (Addr × Addr)) (p : Rd) (tx : Str), vs = [.ref x, .str tx] ∧ tx.length ≤ 90000 ∧ RdAt K CO CR H x ol es p ∧ LayP p ∧ BaseP p.1 p.2 ∧ szP p ≤ 100000 ∧ RdRes K CO CR H x ol es (takeF tx p) Q
section
variable {P : Program} {w : World} {K : PySem.W.Frag} {mg : Str → Option Value} {base : Heap} {CO CR : Addr}
theorem scRdTake : FnScope ["self", "line", "text", "deep", "odd"] ["self", "line"] (defScope sRdTake) := ⟨rfl, rfl, rfl, by decide +kernel, rfl, by decide +kernel, by decide +kernel⟩
theorem ok_take {f : Addr} {fd : FuncData} (F : FunD K "take" "Reader.take" (defArgs sRdTake) (defBody sRdTake) (defScope sRdTake) [] [] f fd) (T : Bi mg) (b_divmod : mg "divmod" = none) (mM : ∃ t, mg "MARGIN" = some (.str "  " t)) (c : RdC K CO CR)
    (C_close : MCal P w K mg base CR "_close" 2 ["self", "many"] (spClose K CO CR)) (C_turn : MCal P w K mg base CR "_turn" 3 ["self"] (spTurn K CO CR)) (C_begin : MCal P w K mg base CR "_begin" 4 ["self", "text"] (spBegin K CO CR)) : FnOk P w K mg base CX0 5 f fd ["self", "line"] (spTake K CO CR) := by
  refine F.ok scRdTake (fun vs H Q E h => ?_) (fun cdv A outer s H vs Q E hr h => ?_)
  · obtain ⟨x, ol, es, p, tx, rfl, _⟩ := h
    rfl
  · obtain ⟨x, ol, es, ⟨t, S⟩, tx, rfl, hlen, hR, hL, hB, hz, kn, ky⟩ := h
    obtain ⟨tM, m_MARGIN⟩ := mM
    have hr2 := hr.mono (show 2 ≤ 4 by decide)
    have hr3 := hr.mono (show 3 ≤ 4 by decide)
    refine ⟨_, PSs.nox (pss_cut (ps_set (i := 2) scRdTake.nd rfl (Or.inl rfl) (pe_m1 PySem.F.slot_str_lstrip PySem.F.type_str_lstrip mt_lstripChars (pv 1) pe_str))
    (pss_cut (ps_asg (pe_callB call_divmod (by rfl) b_divmod (by decide +kernel) (pa_cons (pe_op op_sub (pe_callB call_len_str (by rfl) T.b_len (by decide +kernel) (pa_cons (pv 1) pa_nil)) (pe_callB call_len_str (by rfl) T.b_len (by decide +kernel) (pa_cons (pv 2) pa_nil))) (pa_cons (pe_callB call_len_str (by rfl) T.b_len (by decide +kernel) (pa_cons (pe_glob (v := .str _) rfl m_MARGIN ⟨_, rfl⟩) pa_nil)) pa_nil))) (pg_tup rfl (pgs_cons (pg_name (i := 3) scRdTake.nd rfl (Or.inl rfl)) (pgs_cons (pg_name (i := 4) scRdTake.nd rfl (Or.inl rfl)) pgs_nil))))
    (pss_cons (ps_if (PW.pt (pw_or (pt_truth (pv 4) (by intro _; rfl)) (pw_or1 (pt_cmpR op_ge (pv 3) (pe_callB call_len_seq (by rfl) T.b_len (by decide +kernel) (pa_cons (pe_fld (pv 0) rfl) pa_nil)) (nomark _))))) (pss_one (ps_ret pe_bl)) pss_nil)
    (pss_cons (ps_if (pt_cmpR op_eq (pv 2) pe_str (nomark _)) (pss_one (ps_ret (pe_and (pe_cmpR op_gt (pe_callB call_len_seq (by rfl) T.b_len (by decide +kernel) (pa_cons (pe_fld (pv 0) rfl) pa_nil)) (pe_op op_add (pv 3) pe_int) (nomark _)) (pe_and (pmc C_close hr2 (pv 0) (pa_cons (pe_op op_add (pv 3) pe_int) pa_nil)) (pe_one (pmc0 C_turn hr3 (pv 0))))))) pss_nil)
    (pss_one (ps_ret (pe_and (pmc C_close hr2 (pv 0) (pa_cons (pe_op op_add (pv 3) pe_int) pa_nil)) (pe_one (pmc C_begin hr (pv 0) (pa_cons (pv 2) pa_nil)))))))))), ?_⟩
    obtain ⟨dx, hm⟩ := hR.me
    have hal := hR.al.len
    have hal : S.length + 1 = es.length := hal
    have bl := bare_len tx
    refine ⟨fun σ2 H2 => σ2 = [some (.ref x), some (.str tx), some (.str (bareT tx)), none, none] ∧ H2 = H, ?_, ?_⟩
    · exact ⟨_, rfl, ⟨_, rfl⟩, tx, _, rfl, rfl, lnB (n := 90000) hlen, rfl, rfl⟩
    rintro σ2 H2 ⟨rfl, hH2⟩
    rw [hH2]
    have ie : (tx.length : Int) - ((bareT tx).length : Int) = ((tx.length - (bareT tx).length : Nat) : Int) := by omega
    refine ⟨fun σ3 H3 => σ3 = [some (.ref x), some (.str tx), some (.str (bareT tx)), some (.int (deepT tx : Nat)), some (.int (oddT tx : Nat))] ∧ Same H H3, ?_, ?_⟩
    · refine ⟨_, rfl, tx, rfl, lnB (n := 90000) hlen, _, rfl, bareT tx, rfl, lnB (n := 90000) (Nat.le_trans bl hlen), _, _, rfl, rfl, ?_⟩
      refine ⟨_, rfl, by decide +kernel, _, _, rfl, ⟨by decide +kernel, by decide +kernel⟩, fun q nq => ?_⟩
      have e2 : ((Str.ofString "  ").length : Int) = 2 := by decide +kernel
      rw [ie, e2]
      refine ⟨q, _, rfl, .inl (.inl upd_same), rfl, _, _, rfl, _, _, rfl, rfl, ?_, same_new nq⟩
      rfl
    rintro σ3 H3 ⟨rfl, s3⟩
    have hR3 := hR.same s3
    obtain ⟨dx3, hm3⟩ := hR3.me
    have hod : oddT tx < 2 := Nat.mod_lt _ (by decide)
    refine ⟨_, rfl, _, rfl, ?_⟩
    have hli := hR3.li
    have lst : Lsts (ownL ol es) H := hR.lsts
    have kno : ∀ {H' : Hp}, Fm (ownL ol es) H3 H' → takeF tx (t, S) = none → Q (.bl false) H' := fun f e => kn e _ (s3.fm.trans f)
    have tF : takeF tx (t, S) = if oddT tx ≠ 0 ∨ S.length + 1 ≤ deepT tx then none
      else if bareT tx = ("or" : Str) then (if deepT tx + 1 < S.length + 1 then (closeF (deepT tx + 2) t S).bind turnF else none)
      else (closeF (deepT tx + 1) t S).bind (beginF (bareT tx)) := rfl
    cases ho : ((((oddT tx : Nat) : Int)) != 0) with
    | true =>
      refine ifB (by rfl) (kno Fm.refl ?_)
      rw [tF, if_pos (.inl (by intro e; rw [e] at ho; exact absurd ho (by decide)))]
    | false =>
    have ho0 : oddT tx = 0 := by
      have : ((oddT tx : Nat) : Int) = 0 := by simpa using ho
      omega
    refine ifBF (by rfl) ⟨_, rfl, _, rfl, x, CR, dx3, _, _, rfl, hm3, c.cr, c.r1, rfl, ol, _, rfl, .inl (SqL.of hli), _, _, rfl, rfl, _, rfl, ?_⟩
    rw [List.length_reverse, List.length_map, ← hal]
    by_cases hd : S.length + 1 ≤ deepT tx
    · refine ifD (by show (((S.length + 1 : Nat) : Int) ≤ ((deepT tx : Nat) : Int)); omega) (kno Fm.refl ?_)
      rw [tF, if_pos (.inr hd)]
    refine ifDF (by show ¬ (((S.length + 1 : Nat) : Int) ≤ ((deepT tx : Nat) : Int)); omega) ?_
    rw [if_neg (fun h => h.elim (fun h => h ho0) hd)] at tF
    have stay : ∀ {q : Rd} {fs : List (Addr × Addr)} {H4 : Hp}, Fm (ownL ol es) H3 H4 → (∀ e ∈ fs, e ∈ es) → RdRes K CO CR H3 x ol es (takeF tx (t, S)) Q ∧ (∀ r, takeF tx (t, S) = r → RdRes K CO CR H4 x ol fs r Q) := fun {q fs H4} f hs => by
      have h0 : RdRes K CO CR H3 x ol es (takeF tx (t, S)) Q := ⟨fun e H' f => kn e _ (s3.fm.trans f), fun q e fs H' f hs hR => ky q e fs H' (s3.fm.trans f) (fun e he => (hs e he).imp id fun h => s3.free h) hR⟩
      refine ⟨h0, fun r hr => ?_⟩
      subst hr
      refine ⟨fun e H' f2 => h0.1 e H' (f.trans (f2.mono (own_sub hs))), fun q e gs H' f2 hs2 hR => h0.2 q e gs H' (f.trans (f2.mono (own_sub hs))) (fun e he => ?_) hR⟩
      rcases hs2 e he with h | h
      · exact .inl (hs e h)
      · exact .inr (f.free hR3.lsts h)
    by_cases hor : bareT tx = ("or" : Str)
    · rw [if_pos hor] at tF
      refine ⟨_, rfl, rfl, _, rfl, ?_⟩
      rw [dec_str]
      refine ifB (by rw [hor]; rfl) ⟨_, rfl, x, CR, dx3, _, _, rfl, hm3, c.cr, c.r1, rfl, ol, _, rfl, .inl (SqL.of hli), _, rfl, _, _, rfl, rfl, _, _, rfl, rfl, _, rfl, ?_⟩
      rw [List.length_reverse, List.length_map, ← hal]
      by_cases hgt : deepT tx + 1 < S.length + 1
      · rw [if_pos hgt] at tF
        refine ifD (by show (((deepT tx : Nat) : Int) + 1 < ((S.length + 1 : Nat) : Int)); omega) ?_
        refine ⟨_, rfl, x, dx3, _, rfl, hm3, rfl, _, rfl, _, _, rfl, rfl, ?_⟩
        refine ⟨x, ol, es, (t, S), deepT tx + 2, rfl, by omega, hR3, hL, hB, hz, fun e H4 f4 => ?_, fun q e fs H4 f4 hs hR4 => ?_⟩
        · refine ⟨false, rfl, kno f4 ?_⟩
          rw [tF, e]
          rfl
        · obtain ⟨hLq, hBq, hzq⟩ := close_keep e hL hB
          obtain ⟨dx4, hm4⟩ := hR4.me
          rw [e] at tF
          exact ⟨true, rfl, _, rfl, x, dx4, _, rfl, hm4, rfl, x, ol, fs, q, rfl, hR4, hLq, Nat.le_trans hzq hz, (stay (q := q) f4 hs).2 _ tF⟩
      · rw [if_neg hgt] at tF
        refine ifDF (by show ¬ (((deepT tx : Nat) : Int) + 1 < ((S.length + 1 : Nat) : Int)); omega) ?_
        exact kno Fm.refl tF
    · rw [if_neg hor] at tF
      refine ⟨_, rfl, rfl, _, rfl, ?_⟩
      rw [dec_str]
      refine ifBF (by simpa using hor) ?_
      refine ⟨_, rfl, x, dx3, _, rfl, hm3, rfl, _, rfl, _, _, rfl, rfl, ?_⟩
      refine ⟨x, ol, es, (t, S), deepT tx + 1, rfl, by omega, hR3, hL, hB, hz, fun e H4 f4 => ?_, fun q e fs H4 f4 hs hR4 => ?_⟩
      · refine ⟨false, rfl, kno f4 ?_⟩
        rw [tF, e]
        rfl
      · obtain ⟨hLq, hBq, hzq⟩ := close_keep e hL hB
        obtain ⟨dx4, hm4⟩ := hR4.me
        rw [e] at tF
        exact ⟨true, rfl, _, rfl, x, dx4, _, rfl, hm4, rfl, _, rfl, x, ol, fs, q, bareT tx, rfl, Nat.le_trans bl hlen, hR4, Nat.le_trans hzq hz, (stay (q := q) f4 hs).2 _ tF⟩
end
end K05
set_option Elab.async false
set_option linter.all false
set_option maxRecDepth 100000
set_option maxHeartbeats 4000000
/-! What take keeps. -/
namespace PM
open PySem PySem.Spec PyProof.Rows L2 ZX ZR ZT TL
theorem strOk_name {x : Str} (h : NameOk x) : PyData.strOk x = true := by
  show x.cps.all (fun c => decide (c < 0x110000)) = true
  rw [← Array.all_toList]
  exact List.all_eq_true.mpr fun c hc => decide_eq_true (by have := (h.2.2 c hc).2; omega)
theorem lay_strs : ∀ {ps : List Str}, (∀ y ∈ ps, NameOk y) → PyData.canLayAll0 (ps.map .str) = true
  | [], _ => rfl
  | x :: ps, h => by
    show (PyData.strOk x && PyData.canLayAll0 (ps.map .str)) = true
    rw [strOk_name (h x List.mem_cons_self), lay_strs fun y hy => h y (List.mem_cons_of_mem _ hy)]
    rfl
theorem dep_strs : ∀ {ps : List Str}, PyData.depthAll (ps.map .str) = 0
  | [] => rfl
  | x :: ps => by
    show max 0 (PyData.depthAll (ps.map .str)) = 0
    rw [dep_strs]
    rfl
theorem lay_word {a : String} (h : PyData.strOk (Str.ofString a) = true) (ds : List PyData) : PyData.canLay0 (.tuple (.str (Str.ofString a) :: ds)) = PyData.canLayAll0 ds := by
  show (PyData.strOk (Str.ofString a) && PyData.canLayAll0 ds) = _
  rw [h, Bool.true_and]
mutual
theorem lay_dR : ∀ {d : Nat} {r : Rw}, okR d r → (dR r).canLay0 = true
  | d, .note x o ps, h => by
    rw [dR, lay_word (by decide +kernel)]
    show (PyData.strOk x && (PyData.strOk o && (PyData.canLayAll0 (ps.map .str) && true))) = true
    rw [strOk_name h.1, strOk_name h.2.1, lay_strs h.2.2.2]
    rfl
  | d, .copy x y, h => by
    rw [dR, lay_word (by decide +kernel)]
    show (PyData.strOk x && (PyData.strOk y && true)) = true
    rw [strOk_name h.1, strOk_name h.2]
    rfl
  | d, .give x i, h => by
    rw [dR, lay_word (by decide +kernel)]
    show (PyData.strOk x && (true && true)) = true
    rw [strOk_name h]
    rfl
  | d, .ask x, h => by
    rw [dR, lay_word (by decide +kernel)]
    show (PyData.strOk x && true) = true
    rw [strOk_name h]
    rfl
  | d, .prt x, h => by
    rw [dR, lay_word (by decide +kernel)]
    show (PyData.strOk x && true) = true
    rw [strOk_name h]
    rfl
  | d, .either a b, h => by
    rw [dR, lay_word (by decide +kernel)]
    show (PyData.canLayAll0 (dB a) && (PyData.canLayAll0 (dB b) && true)) = true
    rw [lay_dB h.2.2.2.1, lay_dB h.2.2.2.2]
    rfl
  | d, .again a, h => by
    rw [dR, lay_word (by decide +kernel)]
    show (PyData.canLayAll0 (dB a) && true) = true
    rw [lay_dB h.2.2]
    rfl
theorem lay_dB : ∀ {d : Nat} {b : List Rw}, okB d b → PyData.canLayAll0 (dB b) = true
  | d, [], _ => rfl
  | d, r :: b, h => by
    show ((dR r).canLay0 && PyData.canLayAll0 (dB b)) = true
    rw [lay_dR h.1, lay_dB h.2]
    rfl
end

theorem noteOf_ok {n t : Str} (hn : NameOk n) {r : Rw} (h : noteOf n t = some r) : okR 1 r := by
  unfold noteOf at h
  split at h
  · rename_i h1
    obtain ⟨h1, _⟩ := Bool.and_eq_true_iff.mp h1
    split at h
    · rename_i h2
      obtain ⟨h2, h3⟩ := Bool.and_eq_true_iff.mp h2
      cases h
      refine ⟨hn, nameB_ok h1, of_decide_eq_true h2, fun y hy => nameB_ok ?_⟩
      exact List.all_eq_true.mp h3 _ (List.mem_map.mpr ⟨y, hy, rfl⟩)
    · cases h
  · cases h
theorem askM_ok {w x : Str} (h : askM w x = true) : NameOk (askT w x) := nameB_ok (Bool.and_eq_true_iff.mp h).2
theorem rowOf_ok {x : Str} {r : Rw} (h : rowOf x = some r) : okR 1 r := by
  unfold rowOf at h
  split at h
  · rename_i h1
    cases h
    exact askM_ok h1
  · split at h
    · rename_i h1
      cases h
      exact askM_ok h1
    · split at h
      · rename_i hn
        split at h
        · rename_i h2
          cases h
          exact ⟨nameB_ok hn, nameB_ok h2⟩
        · split at h
          · cases h
            exact nameB_ok hn
          · exact noteOf_ok (nameB_ok hn) h
      · cases h
theorem szP_eq (p : Rd) : szP p = p.1.tk.length + 1 + (p.2.map fun o => o.tk.length + 1).sum := szP_cons p.1 p.2
theorem push_keep {p : Rd} {k : Knd} (hk : k ≠ .base) (hl : PyData.canLayAll0 (kdD k) = true) (h : LayP p) (b : BaseP p.1 p.2) : LayP (⟨k, []⟩, p.1 :: p.2) ∧ BaseP ⟨k, []⟩ (p.1 :: p.2) ∧ szP (⟨k, []⟩, p.1 :: p.2) ≤ szP p + 1 := by
  refine ⟨fun o ho => ?_, ⟨hk, b⟩, ?_⟩
  · rcases List.mem_cons.mp ho with rfl | ho
    · exact ⟨rfl, hl⟩
    · exact h o ho
  · rw [szP_two]
    show 0 + 1 + szP p ≤ _
    omega
theorem begin_keep {x : Str} {p q : Rd} (e : beginF x p = some q) (h : LayP p) (b : BaseP p.1 p.2) : LayP q ∧ BaseP q.1 q.2 ∧ szP q ≤ szP p + 1 := by
  unfold beginF at e
  split at e
  · cases e
    exact push_keep (by intro z; cases z) (by decide +kernel) h b
  · split at e
    · cases e
      exact push_keep (by intro z; cases z) (by decide +kernel) h b
    · cases hr : rowOf x with
      | none => rw [hr] at e; cases e
      | some r =>
        rw [hr] at e
        cases e
        obtain ⟨t, S⟩ := p
        have ht := h.top
        refine ⟨fun o ho => ?_, baseP_kd (t := t) (u := ⟨t.kd, t.tk ++ [r]⟩) rfl b, ?_⟩
        · rcases List.mem_cons.mp ho with rfl | ho
          · exact ⟨lay_snoc ht.1 (lay_dR (rowOf_ok hr)), ht.2⟩
          · exact h o (List.mem_cons_of_mem _ ho)
        · rw [szP_cons, szP_cons, List.length_append, List.length_singleton]
          show t.tk.length + 1 + 1 + (S.map fun o => o.tk.length + 1).sum ≤ t.tk.length + 1 + (S.map fun o => o.tk.length + 1).sum + 1
          omega
theorem turn_keep {p q : Rd} (e : turnF p = some q) (h : LayP p) (b : BaseP p.1 p.2) : LayP q ∧ BaseP q.1 q.2 ∧ szP q ≤ szP p + 1 := by
  unfold turnF at e
  split at e
  · cases e
    obtain ⟨t, S⟩ := p
    have ht := h.top
    refine ⟨fun o ho => ?_, ?_, ?_⟩
    · rcases List.mem_cons.mp ho with rfl | ho
      · refine ⟨rfl, ?_⟩
        show (PyData.strOk "either" && (PyData.canLayAll0 (dB t.tk) && true)) = true
        rw [ht.1, show PyData.strOk "either" = true by decide +kernel]
        rfl
      · exact h o (List.mem_cons_of_mem _ ho)
    · cases S with
      | nil => trivial
      | cons u S => exact ⟨(by intro z; cases z), b.2⟩
    · rw [szP_cons, szP_cons]
      show 0 + 1 + (S.map fun o => o.tk.length + 1).sum ≤ t.tk.length + 1 + (S.map fun o => o.tk.length + 1).sum + 1
      omega
  · cases e
theorem take_keep {x : Str} {p q : Rd} (e : takeF x p = some q) (h : LayP p) (b : BaseP p.1 p.2) : LayP q ∧ BaseP q.1 q.2 ∧ szP q ≤ szP p + 1 := by
  have after : ∀ {n : Nat} {f : Rd → Option Rd}, (∀ {r : Rd}, f r = some q → LayP r → BaseP r.1 r.2 → LayP q ∧ BaseP q.1 q.2 ∧ szP q ≤ szP r + 1) → (closeF n p.1 p.2).bind f = some q → LayP q ∧ BaseP q.1 q.2 ∧ szP q ≤ szP p + 1 := by
    intro n f hf e
    cases hc : closeF n p.1 p.2 with
    | none => rw [hc] at e; cases e
    | some r =>
      rw [hc] at e
      obtain ⟨h1, h2, h3⟩ := close_keep hc h b
      obtain ⟨g1, g2, g3⟩ := hf e h1 h2
      exact ⟨g1, g2, Nat.le_trans g3 (Nat.succ_le_succ h3)⟩
  unfold takeF at e
  split at e
  · cases e
  · split at e
    · split at e
      · exact after (fun e => turn_keep e) e
      · cases e
    · exact after (fun e => begin_keep e) e
/-- a frame that grows by what is new -/
theorem Fm.grow {ol : Addr} {es fs : List (Addr × Addr)} {H H1 H2 : Hp} (a : Fm (ownL ol es) H H1) (b : Fm (ownL ol fs) H1 H2) (hs : ∀ e ∈ fs, e ∈ es ∨ H e.2 = none) : Fm (ownL ol es) H H2 := by
  refine ⟨fun c u n h => ?_, fun c m xs h => ?_⟩
  · refine b.1 c u (fun m => ?_) (a.1 c u n h)
    rcases List.mem_cons.mp m with rfl | m
    · exact n List.mem_cons_self
    · obtain ⟨e, he, rfl⟩ := List.mem_map.mp m
      rcases hs e he with h2 | h2
      · exact n (List.mem_cons_of_mem _ (List.mem_map_of_mem h2))
      · have h : H e.2 = some u := h
        rw [h2] at h
        cases h
  · obtain ⟨ys, h1⟩ := a.2 c m xs h
    by_cases hb : c ∈ ownL ol fs
    · exact b.2 c hb ys h1
    · exact ⟨ys, b.1 c _ hb h1⟩
/-- the text, cut at its line feeds -/
theorem split_prog {b : List Rw} (hp : ∀ t ∈ linB 0 b, 10 ∉ tl t) : Txt.split (progT b) lfS = linB 0 b ++ [Str.empty] := by
  have e1 : tl lfS = [10] := by decide +kernel
  have ej : ∀ l : List Str, Txt.join ("" : Str) (l.map fun t => t ++ lfS) = Txt.join lfS (l ++ [Str.empty]) := by
    intro l
    refine ext_tl ?_
    rw [join_eq, tl_join, join_eq, tl_join, e1, show tl ("" : Str) = [] by decide +kernel]
    induction l with
    | nil => rfl
    | cons t l ih =>
      have e2 : ∀ z zs, joinL [] (z :: zs) = z ++ joinL [] zs := by
        intro z zs
        cases zs with
        | nil => show z = z ++ []; rw [List.append_nil]
        | cons y ys => rfl
      have e3 : ∀ zs, zs ≠ [] → joinL [10] (tl t :: zs) = tl t ++ (10 :: joinL [10] zs) := by
        intro zs hz
        cases zs with
        | nil => exact absurd rfl hz
        | cons y ys => rfl
      rw [List.map_cons, List.map_cons, e2, List.cons_append, List.map_cons, e3 _ (by simp), ← ih, tl_append, e1, List.append_assoc]
      rfl
  unfold progT
  rw [ej]
  refine split_join e1 (by decide +kernel) (by simp) fun t ht => ?_
  rcases List.mem_append.mp ht with h | h
  · exact hp t h
  · rw [List.mem_singleton.mp h]
    decide +kernel
end PM
set_option Elab.async false
set_option linter.all false
set_option maxRecDepth 100000
set_option maxHeartbeats 4000000
/-! read_with, whatever the text. -/
namespace PM
open PySem PySem.Spec PyProof.Rows L2 ZX ZR ZT TL
def YEn1 (xs : List V) : Nat → Hp → V → Hp → Prop := fun i H v H' => ∃ t y, v = .ref t ∧ H t = none ∧ H' = upd H t (.tup [.int ((i + 1 : Nat) : Int), y]) ∧ xs[i]? = some y
theorem walk_en1 {K : PySem.W.Frag} {a : Addr} {xs : List V} : Walk (It1 K a) xs.length (fun H => SqL K H a xs) (YEn1 xs) :=
  ⟨fun i _ hi q => ⟨xs, xs[i], q, by simp [hi]⟩, fun _ q => ⟨xs, q, Nat.le_refl _⟩, fun _ _ _ _ _ q y => by
    obtain ⟨t, z, h1, h2, h3, h4⟩ := y
    exact ⟨t, z, h1, h2, h3, h4 xs q⟩⟩
/-- line by line, the first wrong one told -/
def runE : Nat → List Str → Rd → Except Nat Rd
  | _, [], p => .ok p
  | n, x :: l, p => match takeF x p with
    | none => .error n
    | some q => runE (n + 1) l q
/-- lines and what is behind the last line feed -/
def readE (ls : List Str) (last : Str) : Except Nat (List Rw) := match runE 1 ls (⟨.base, []⟩, []) with
  | .error n => .error n
  | .ok p => if last ≠ Str.empty then .error (ls.length + 1) else match closeF 1 p.1 p.2 with
    | none => .error (ls.length + 1)
    | some r => .ok r.1.tk
theorem close_one : ∀ {S : List Op} {t : Op} {q : Rd}, closeF 1 t S = some q → q.2 = []
  | [], t, q, e => by
    rw [closeF] at e
    cases e
    rfl
  | u :: S, t, q, e => by
    rw [closeF, if_pos (by omega)] at e
    split at e
    · cases e
    · exact close_one e
theorem spl_ne (S : List Nat) : ∀ (L : List Nat) (k : Nat) (acc : List Nat), spl S k acc L ≠ []
  | [], k, acc => by
    cases k <;> (unfold spl; intro z; cases z)
  | c :: r, 0, acc => by
    unfold spl
    split
    · intro z; cases z
    · exact spl_ne S r 0 _
  | c :: r, k + 1, acc => by
    unfold spl
    exact spl_ne S r k acc
theorem split_last (tx : Str) : ∃ ls last, Txt.split tx lfS = ls ++ [last] ∧ ls.length ≤ tx.length ∧ ∀ l ∈ ls ++ [last], l.length ≤ tx.length := by
  have e1 : tl lfS = [10] := by decide +kernel
  have h := split_spl tx lfS (by rw [e1]; simp) (by first | exact kind_ok (by decide +kernel) | decide +kernel)
  have hm := spl_many (tl lfS) (tl tx) 0 []
  have hl := spl_len (tl lfS) (tl tx) 0 []
  have hne : Txt.split tx lfS ≠ [] := fun e => by
    rw [e] at h
    exact spl_ne _ _ _ _ h.symm
  refine ⟨(Txt.split tx lfS).dropLast, (Txt.split tx lfS).getLast hne, (List.dropLast_concat_getLast hne).symm, ?_, fun l hl' => ?_⟩
  · have e2 : (Txt.split tx lfS).length ≤ tx.length + 1 := by
      have := congrArg List.length h
      rw [List.length_map] at this
      rw [this, len_tl]
      exact hm
    rw [List.length_dropLast]
    omega
  · rw [List.dropLast_concat_getLast] at hl'
    have : tl l ∈ spl (tl lfS) 0 [] (tl tx) := by
      rw [← h]
      exact List.mem_map_of_mem hl'
    have := hl _ this
    rw [len_tl, len_tl tx]
    exact Nat.le_trans this (by show 0 + _ ≤ _; omega)
end PM
set_option Elab.async false
set_option linter.all false
set_option maxRecDepth 100000
set_option maxHeartbeats 4000000
/-! read_with, whatever it is given. -/
namespace K05
open PySem PySem.Spec PyProof.Rows L2 ZX PM ZR ZT TL
abbrev sRead_with : Stmt := top 37
def NoStr (K : PySem.W.Frag) (H : Hp) (v : V) : Prop := ∃ t, TyX K H v t ∧ PySem.W.kitOne K t (.type "str") = some false
def spReadWith (K : PySem.W.Frag) (CO CR CT : Addr) : Sp := fun vs H Q E => ∃ (x ol : Addr) (e0 : Addr × Addr) (v : V), vs = [.ref x, v] ∧ RdAt K CO CR H x ol [e0] (⟨.base, []⟩, []) ∧
  ((NoStr K H v ∧ ∀ e H', Fm (ownL ol [e0]) H H' → H' e = some (.xd [("line", .int 0)]) → E (.ref CT) (some e) H') ∨
   (∃ tx ls last, v = .str tx ∧ tx.length ≤ 90000 ∧ Txt.split tx lfS = ls ++ [last] ∧ ls.length ≤ 90000 ∧ (∀ l ∈ ls, l.length ≤ 90000) ∧
     (∀ n : Nat, readE ls last = .error n → ∀ e H', Fm (ownL ol [e0]) H H' → H' e = some (.xd [("line", .int n)]) → E (.ref CT) (some e) H') ∧
     (∀ b, readE ls last = .ok b → ∀ u H', Fm (ownL ol [e0]) H H' → BV K H' u b → Q u H')))
section
variable {P : Program} {w : World} {K : PySem.W.Frag} {mg : Str → Option Value} {base : Heap} {CO CR CT : Addr}
theorem scRead_with : FnScope ["reader", "text", "lines", "rest", "number", "line"] ["reader", "text"] (defScope sRead_with) := ⟨rfl, rfl, rfl, by decide +kernel, rfl, by decide +kernel, by decide +kernel⟩
theorem ok_read_with {f fT : Addr} {fd fdT : FuncData} {psT : List Str} (N : ErF P w K mg base "BadText" "line" CT fT fdT psT) (F : FnP K "read_with" sRead_with f fd) (T : Bi mg) (c : RdC K CO CR)
    (C_take : MCal P w K mg base CR "take" 5 ["self", "line"] (spTake K CO CR)) (C_over : MCal P w K mg base CR "over" 3 ["self"] (spOver K CO CR)) (C_rows : MCal P w K mg base CR "rows" 1 ["self"] (spRdRows K CO CR)) : FnOk P w K mg base (L2.CX P w) 6 f fd ["reader", "text"] (spReadWith K CO CR CT) := by
  refine F.ok scRead_with (fun vs H Q E h => ?_) (fun cdv A outer s H vs Q E hr h => ?_)
  · obtain ⟨x, ol, e0, v, rfl, _⟩ := h
    rfl
  · obtain ⟨x, ol, e0, v, rfl, hR, h⟩ := h
    have hr3 := hr.mono (show 3 ≤ 5 by decide)
    have hr1 := hr.mono (show 1 ≤ 5 by decide)
    have hr2 := hr.mono (show 2 ≤ 5 by decide)
    refine ⟨_, (pss_cons (ps_if (pt_not (pt_val (pe_callB call_isi (by rfl) T.b_isinstance (by decide +kernel) (pa_cons (pv 1) (pa_cons (pe_bltn (v := .ty "str") (by rfl) T.b_str (by decide +kernel) rfl) pa_nil))))) (pss_one (ps_raise rfl (takes_of rfl rfl rfl rfl) (pmk_oex N.T N.iC N.tI N.F1 hr2 N.bd .nil pass0 rfl N.g (pa_cons pe_int pa_nil)))) pss_nil)
    (pss_cut (ps_asg (pe_split (pv 1) pe_str) (pg_star rfl (pgs_cons (pg_name (i := 2) scRead_with.nd rfl (Or.inl rfl)) (pgs_cons (pg_name (i := 3) scRead_with.nd rfl (Or.inl rfl)) pgs_nil))))
    (pss_cons (ps_for (passes_of rfl) rfl (pi_enum1 (by rfl) T.b_enumerate (pa_cons (pv 2) pa_nil)) (pg_tup rfl (pgs_cons (pg_name (i := 4) scRead_with.nd rfl (Or.inl rfl)) (pgs_cons (pg_name (i := 5) scRead_with.nd rfl (Or.inl rfl)) pgs_nil)))
      (pss_one (ps_if (pt_not (pt_val (pmc C_take hr (pv 0) (pa_cons (pv 5) pa_nil)))) (pss_one (ps_raise rfl (takes_of rfl rfl rfl rfl) (pmk_oex N.T N.iC N.tI N.F1 hr2 N.bd .nil pass0 rfl N.g (pa_cons (pv 4) pa_nil)))) pss_nil)))
    (pss_cons (ps_if (PW.pt (pw_or (pt_cmpR op_ne (pv 3) pe_str (nomark _)) (pw_or1 (pt_not (pt_val (pmc0 C_over hr3 (pv 0))))))) (pss_one (ps_raise rfl (takes_of rfl rfl rfl rfl) (pmk_oex N.T N.iC N.tI N.F1 hr2 N.bd .nil pass0 rfl N.g (pa_cons (pe_op op_add (pe_callB call_len_seq (by rfl) T.b_len (by decide +kernel) (pa_cons (pv 2) pa_nil)) pe_int) pa_nil)))) pss_nil)
    (pss_one (ps_ret (pmc0 C_rows hr1 (pv 0)))))))), ?_⟩
    rcases h with ⟨⟨t, ht, he⟩, ke⟩ | ⟨tx, ls, last, rfl, htx, hsp, hls, hll, ke, k⟩
    · exact ⟨_, rfl, _, _, _, _, false, rfl, .ty "str", ht, he, false, rfl, rdF fun e H' sm hx => ke e H' sm.fm hx⟩
    have h10 : (("\n" : Str).length == 0) = false := by decide +kernel
    refine ⟨_, rfl, _, _, _, _, true, rfl, .ty "str", .base (.str tx), rfl, true, rfl, ?_⟩
    refine ⟨fun σ2 H2 => ∃ la, σ2 = [some (.ref x), some (.str tx), some (.ref la), some (.str last), none, none] ∧ Same H H2 ∧ H la = none ∧ H2 la = some (.lst (ls.map V.str)), ?_, ?_⟩
    · refine ⟨_, rfl, ⟨_, rfl⟩, tx, _, rfl, rfl, h10, Nat.le_trans (show tx.length + 2 ≤ 100002 by omega) (by decide), fun pa na => ?_⟩
      refine ⟨pa, ls.map V.str, .str last, rfl, SqL.of (by rw [upd_same, show Txt.split tx (Str.ofString "\n") = ls ++ [last] from hsp, List.map_append]; rfl), fun la nla => ?_⟩
      have s1 := same_new (o := .lst ((Txt.split tx (Str.ofString "\n")).map V.str)) na
      exact ⟨_, _, rfl, _, _, rfl, rfl, la, rfl, s1.trans (same_new nla), s1.free nla, upd_same⟩
    rintro σ2 H2 ⟨la, rfl, s2, nla, hla⟩
    refine ⟨_, rfl, la, _, rfl, SqL.of hla, ?_⟩
    have hlN : ∀ {n : Nat}, runE 1 ls (⟨.base, []⟩, []) = .error n → readE ls last = .error n := fun e => by
      unfold readE
      rw [e]
    refine for_it (walk_en1 (xs := ls.map V.str)) (fun i σ' H' => ∃ p' fs n l, σ' = [some (.ref x), some (.str tx), some (.ref la), some (.str last), n, l] ∧ RdAt K CO CR H' x ol fs p' ∧ LayP p' ∧ BaseP p'.1 p'.2 ∧ szP p' ≤ 1000 + i ∧ Fm (ownL ol [e0]) H H' ∧ (∀ e ∈ fs, e ∈ [e0] ∨ H e.2 = none) ∧ la ∉ ownL ol fs ∧ H' la = some (.lst (ls.map V.str)) ∧ runE (i + 1) (ls.drop i) p' = runE 1 ls (⟨.base, []⟩, [])) ?_ ?_ ?_ ?_
    · refine ⟨_, [e0], none, none, rfl, hR.same s2, ?_, trivial, by decide, s2.fm, fun e he => .inl he, fun m => ?_, hla, rfl⟩
      · intro o ho
        rw [List.mem_singleton.mp ho]
        exact ⟨rfl, rfl⟩
      · obtain ⟨xs, hx⟩ := hR.lsts la m
        rw [nla] at hx
        cases hx
    · rintro i σ' H' hi ⟨p', fs, n, l, rfl, _, _, _, _, _, _, _, hl, _⟩
      exact SqL.of hl
    · rintro i v σ' H' H3 hi ⟨p', fs, n, l, rfl, hR', hL', hB', hz', hF', hs', nm, hl', hrun'⟩ ⟨t, y, rfl, nt, rfl, hy⟩
      rw [List.length_map] at hi
      rw [List.getElem?_map, List.getElem?_eq_getElem hi] at hy
      have hy : y = .str ls[i] := by simpa using hy.symm
      subst hy
      have hdr : ls.drop i = ls[i] :: ls.drop (i + 1) := (List.drop_eq_getElem_cons hi)
      rw [hdr] at hrun'
      have s3 := same_new (o := .tup [.int ((i + 1 : Nat) : Int), .str ls[i]]) nt
      refine ⟨t, _, rfl, .inl (.inl upd_same), rfl, _, _, rfl, _, _, rfl, rfl, ?_⟩
      obtain ⟨dx3, hm3⟩ := (hR'.same s3).me
      refine ⟨_, rfl, x, dx3, _, rfl, hm3, rfl, _, rfl, x, ol, fs, p', ls[i], rfl, hll _ (List.getElem_mem hi), hR'.same s3, hL', hB', by omega, fun e H4 f4 => ?_, fun q' e gs H4 f4 hg hR4 => ?_⟩
      · refine ⟨false, rfl, _, rfl, rdF fun ea H5 sm hx => ke (i + 1) (hlN ?_) ea H5 (((hF'.trans s3.fm).grow f4 hs').trans sm.fm) hx⟩
        rw [← hrun', runE, e]
      · refine ⟨true, rfl, ?_⟩
        obtain ⟨a1, a2, a3⟩ := take_keep e hL' hB'
        have hrun2 : runE (i + 1 + 1) (ls.drop (i + 1)) q' = runE 1 ls (⟨.base, []⟩, []) := by
          rw [← hrun', runE, e]
        have l3 : upd H' t (.tup [.int ((i + 1 : Nat) : Int), .str ls[i]]) la = some (.lst (ls.map V.str)) := s3 _ _ hl'
        refine ⟨q', gs, _, _, rfl, hR4, a1, a2, by omega, (hF'.trans s3.fm).grow f4 hs', fun z hz => ?_, fun m => ?_, f4.1 la _ nm l3, hrun2⟩
        · rcases hg z hz with h | h
          · exact hs' z h
          · exact .inr (hF'.free hR.lsts (s3.free h))
        · rcases List.mem_cons.mp m with h | h
          · exact nm (by rw [h]; exact List.mem_cons_self)
          · obtain ⟨z, hz, ez⟩ := List.mem_map.mp h
            have ez : z.2 = la := ez
            rcases hg z hz with h | h
            · exact nm (by rw [← ez]; exact List.mem_cons_of_mem _ (List.mem_map_of_mem h))
            · rw [ez, l3] at h
              cases h
    · rintro σ' H' ⟨p', fs, n, l, rfl, hR', hL', hB', hz', hF', hs', nm, hl', hrun'⟩
      rw [List.length_map] at hrun' hz'
      rw [List.drop_length] at hrun'
      have hrun' : runE 1 ls (⟨.base, []⟩, []) = .ok p' := by rw [← hrun', runE]
      obtain ⟨dx3, hm3⟩ := hR'.me
      have er : readE ls last = if last ≠ Str.empty then .error (ls.length + 1) else match closeF 1 p'.1 p'.2 with
          | none => .error (ls.length + 1)
          | some r => .ok r.1.tk := by
        unfold readE
        rw [hrun'] <;> rfl
      refine ⟨_, rfl, rfl, _, rfl, ?_⟩
      rw [dec_str]
      by_cases hla : last = Str.empty
      · refine ifBF (by rw [hla]; rfl) ?_
        rw [if_neg (by simpa using hla)] at er
        refine ⟨_, rfl, x, dx3, _, rfl, hm3, rfl, x, ol, fs, p', rfl, hR', hL', hB', by omega, fun e H4 f4 => ?_, fun q' e gs H4 f4 hg hR4 => ?_⟩
        · rw [e] at er
          refine ⟨false, rfl, _, rfl, la, _, rfl, .inl (SqL.of (f4.1 la _ nm hl')), _, _, rfl, rfl, ?_⟩
          rw [List.length_map]
          exact rdF fun ea H5 sm hx => ke (ls.length + 1) er ea H5 ((hF'.grow f4 hs').trans sm.fm) hx
        · rw [e] at er
          obtain ⟨_, _, a3⟩ := close_keep e hL' hB'
          have h2 := close_one e
          obtain ⟨t, S⟩ := q'
          have h2 : S = [] := h2
          subst h2
          rw [szP_cons] at a3
          have a3 : t.tk.length + 1 + 0 ≤ szP p' := a3
          obtain ⟨dx4, hm4⟩ := hR4.me
          refine ⟨true, rfl, _, rfl, x, dx4, _, rfl, hm4, rfl, x, ol, gs, t, rfl, hR4, by omega, fun v H5 s5 hv => ?_⟩
          exact k _ er v H5 ((hF'.grow f4 hs').trans s5.fm) hv
      · have hla2 : ¬ last = ("" : Str) := fun e => hla (by rw [e]; decide +kernel)
        refine ifB (by simpa using hla2) ?_
        rw [if_pos hla] at er
        refine ⟨_, rfl, la, _, rfl, .inl (SqL.of hl'), _, _, rfl, rfl, ?_⟩
        rw [List.length_map]
        exact rdF fun ea H5 sm hx => ke (ls.length + 1) er ea H5 (hF'.trans sm.fm) hx
end
end K05
set_option Elab.async false
set_option linter.all false
set_option maxRecDepth 100000
set_option maxHeartbeats 4000000
/-! What was read, as a thing of any kind, however deep. -/
namespace PM
open PySem PySem.Spec PyProof.Rows L2 ZX ZR ZT TL
mutual
/-- rows well made, however deep -/
def wfR : Rw → Prop
  | .either a b => wfB a ∧ wfB b
  | .again a => wfB a
  | .note x o ps => okR 1 (.note x o ps)
  | .copy x y => okR 1 (.copy x y)
  | .give x i => okR 1 (.give x i)
  | .ask x => okR 1 (.ask x)
  | .prt x => okR 1 (.prt x)
def wfB : List Rw → Prop
  | [] => True
  | r :: b => wfR r ∧ wfB b
end
theorem wfB_app : ∀ {a b : List Rw}, wfB a → wfB b → wfB (a ++ b)
  | [], b, _, h => h
  | r :: a, b, h, k => ⟨h.1, wfB_app h.2 k⟩
theorem wfB_snoc {a : List Rw} {r : Rw} (h : wfB a) (k : wfR r) : wfB (a ++ [r]) := wfB_app h ⟨k, trivial⟩
mutual
theorem sz_rD : ∀ r : Rw, wfR r → szD (rD r) ≤ 8 * (rowsR r).length
  | .either a b, h => by
    have h1 := sz_bD a h.1
    have h2 := sz_bD b h.2
    show 1 + ((szL (bD a) + 1) + ((szL (bD b) + 1) + 0)) + 1 ≤ 8 * ((rowsB a ++ rowsB b).length + 1)
    rw [List.length_append]
    omega
  | .again a, h => by
    have h1 := sz_bD a h
    show 1 + ((szL (bD a) + 1) + 0) + 1 ≤ 8 * ((rowsB a).length + 1)
    omega
  | .note x o ps, h => by
    have h3 := h.2.2.1
    have : ∀ l : List Str, szL (l.map Dt.str) = l.length := by
      intro l
      induction l with
      | nil => rfl
      | cons y l ih => rw [List.map_cons, szL, ih, szD, List.length_cons]; omega
    show 1 + (1 + (1 + ((szL (ps.map Dt.str) + 1) + 0))) + 1 ≤ 8 * 1
    rw [this]
    omega
  | .copy x y, _ => by show 4 ≤ 8; decide
  | .give x i, _ => by show 4 ≤ 8; decide
  | .ask x, _ => by show 3 ≤ 8; decide
  | .prt x, _ => by show 3 ≤ 8; decide
theorem sz_bD : ∀ b : List Rw, wfB b → szL (bD b) ≤ 8 * (rowsB b).length
  | [], _ => Nat.zero_le _
  | r :: b, h => by
    have h1 := sz_rD r h.1
    have h2 := sz_bD b h.2
    rw [bD, szL, rowsB, List.length_append]
    omega
end
section
variable {K : PySem.W.Frag} {C : Addr} {H : Hp}
mutual
theorem Tv.wr : ∀ (r : Rw) (v : V), wfR r → Tv K H v (dR r) → Td K C H v (rD r)
  | .note x o ps, v, ok, h => Tv.dr _ 1 v ok h
  | .copy x y, v, ok, h => Tv.dr _ 1 v ok h
  | .give x i, v, ok, h => Tv.dr (.give x i) 1 v ok h
  | .ask x, v, ok, h => Tv.dr (.ask x) 1 v ok h
  | .prt x, v, ok, h => Tv.dr (.prt x) 1 v ok h
  | .either p q, v, ok, h => by
    obtain ⟨o1, o2⟩ := ok
    obtain ⟨a, xs, rfl, hS, t⟩ := h.tupI
    cases t with | cons h1 t => cases t with | cons h2 t => cases t with | cons h3 t =>
    cases t
    cases h1
    obtain ⟨b2, y2, rfl, hS2, t2⟩ := h2.tupI
    obtain ⟨b3, y3, rfl, hS3, t3⟩ := h3.tupI
    exact .tup hS (.cons (.str _ (by decide)) (.cons (.tup hS2 (Tvs.wb p y2 o1 t2)) (.cons (.tup hS3 (Tvs.wb q y3 o2 t3)) .nil)))
  | .again p, v, ok, h => by
    have o1 : wfB p := ok
    obtain ⟨a, xs, rfl, hS, t⟩ := h.tupI
    cases t with | cons h1 t => cases t with | cons h2 t =>
    cases t
    cases h1
    obtain ⟨b2, y2, rfl, hS2, t2⟩ := h2.tupI
    exact .tup hS (.cons (.str _ (by decide)) (.cons (.tup hS2 (Tvs.wb p y2 o1 t2)) .nil))
theorem Tvs.wb : ∀ (b : List Rw) (vs : List V), wfB b → Tvs K H vs (dB b) → Tds K C H vs (bD b)
  | [], vs, _, h => by
    cases h
    exact .nil
  | r :: b, vs, ok, h => by
    cases h with | cons h1 t =>
    exact .cons (Tv.wr r _ ok.1 h1) (Tvs.wb b _ ok.2 t)
end
end
/-! ### the reader keeps rows well made -/
def wfP (p : Rd) : Prop := ∀ o ∈ p.1 :: p.2, wfB o.tk ∧ ∀ a, o.kd = .ei2 a → wfB a
theorem wfP.top {t : Op} {S : List Op} (h : wfP (t, S)) : wfB t.tk ∧ ∀ a, t.kd = .ei2 a → wfB a := h t List.mem_cons_self
theorem wfP.close {t u : Op} {S : List Op} (h : wfP (t, u :: S)) : wfP (⟨u.kd, u.tk ++ [rowK t.kd t.tk]⟩, S) := fun o ho => by
  have ht := h.top
  have hu := h u (List.mem_cons_of_mem _ List.mem_cons_self)
  rcases List.mem_cons.mp ho with rfl | ho
  · refine ⟨wfB_snoc hu.1 ?_, hu.2⟩
    cases hk : t.kd with
    | ei2 a => exact ⟨ht.2 a hk, ht.1⟩
    | base => exact ht.1
    | ei1 => exact ht.1
    | ag => exact ht.1
  · exact h o (List.mem_cons_of_mem _ (List.mem_cons_of_mem _ ho))
theorem wf_close {n : Nat} : ∀ {S : List Op} {t : Op} {q : Rd}, closeF n t S = some q → wfP (t, S) → wfP q
  | [], t, q, e, h => by
    rw [closeF] at e
    cases e
    exact h
  | u :: S, t, q, e, h => by
    rw [closeF] at e
    split at e
    · split at e
      · cases e
      · exact wf_close e h.close
    · cases e
      exact h
theorem wf_push {p : Rd} {k : Knd} (hk : ∀ a, k = .ei2 a → wfB a) (h : wfP p) : wfP (⟨k, []⟩, p.1 :: p.2) := fun o ho => by
  rcases List.mem_cons.mp ho with rfl | ho
  · exact ⟨trivial, hk⟩
  · exact h o ho
theorem ok_wf {r : Rw} (h : okR 1 r) (hp : plainR r = true) : wfR r := by
  cases r with
  | either a b => cases hp
  | again a => cases hp
  | note x o ps => exact h
  | copy x y => exact h
  | give x i => exact h
  | ask x => exact h
  | prt x => exact h
theorem rowOf_plain {x : Str} {r : Rw} (h : rowOf x = some r) : plainR r = true := by
  unfold rowOf at h
  split at h
  · cases h; rfl
  · split at h
    · cases h; rfl
    · split at h
      · split at h
        · cases h; rfl
        · split at h
          · cases h; rfl
          · unfold noteOf at h
            split at h
            · split at h
              · cases h; rfl
              · cases h
            · cases h
      · cases h
theorem wf_begin {x : Str} {p q : Rd} (e : beginF x p = some q) (h : wfP p) : wfP q := by
  unfold beginF at e
  split at e
  · cases e
    exact wf_push (fun a z => by cases z) h
  · split at e
    · cases e
      exact wf_push (fun a z => by cases z) h
    · cases hr : rowOf x with
      | none => rw [hr] at e; cases e
      | some r =>
        rw [hr] at e
        cases e
        obtain ⟨t, S⟩ := p
        have ht := h.top
        intro o ho
        rcases List.mem_cons.mp ho with rfl | ho
        · exact ⟨wfB_snoc ht.1 (ok_wf (rowOf_ok hr) (rowOf_plain hr)), ht.2⟩
        · exact h o (List.mem_cons_of_mem _ ho)
theorem wf_turn {p q : Rd} (e : turnF p = some q) (h : wfP p) : wfP q := by
  unfold turnF at e
  split at e
  · cases e
    obtain ⟨t, S⟩ := p
    have ht := h.top
    intro o ho
    rcases List.mem_cons.mp ho with rfl | ho
    · exact ⟨trivial, fun a z => by cases z; exact ht.1⟩
    · exact h o (List.mem_cons_of_mem _ ho)
  · cases e
theorem wf_take {x : Str} {p q : Rd} (e : takeF x p = some q) (h : wfP p) : wfP q := by
  have after : ∀ {n : Nat} {f : Rd → Option Rd}, (∀ {r : Rd}, f r = some q → wfP r → wfP q) → (closeF n p.1 p.2).bind f = some q → wfP q := by
    intro n f hf e
    cases hc : closeF n p.1 p.2 with
    | none => rw [hc] at e; cases e
    | some r =>
      rw [hc] at e
      exact hf e (wf_close hc h)
  unfold takeF at e
  split at e
  · cases e
  · split at e
    · split at e
      · exact after (fun e => wf_turn e) e
      · cases e
    · exact after (fun e => wf_begin e) e
/-! ### no more rows than lines -/
def knN : Knd → Nat
  | .ei2 a => (rowsB a).length + 1
  | _ => 1
def rcO (o : Op) : Nat := (rowsB o.tk).length + knN o.kd
def rcP (p : Rd) : Nat := ((p.1 :: p.2).map rcO).sum
theorem rcP_cons (t : Op) (S : List Op) : rcP (t, S) = rcO t + (S.map rcO).sum := by
  show ((t :: S).map rcO).sum = _
  rw [List.map_cons, List.sum_cons]
theorem rows_snocN (b : List Rw) (r : Rw) : (rowsB (b ++ [r])).length = (rowsB b).length + (rowsR r).length := by
  rw [rowsB_eq, rowsB_eq, List.flatMap_append, List.length_append]
  simp
theorem rowK_len (k : Knd) (b : List Rw) : (rowsR (rowK k b)).length ≤ (rowsB b).length + knN k := by
  cases k with
  | ei2 a =>
    show ((rowsB a ++ rowsB b).length + 1) ≤ _
    rw [List.length_append]
    show _ ≤ (rowsB b).length + ((rowsB a).length + 1)
    omega
  | base => exact Nat.le_refl _
  | ei1 => exact Nat.le_refl _
  | ag => exact Nat.le_refl _
theorem rc_close {n : Nat} : ∀ {S : List Op} {t : Op} {q : Rd}, closeF n t S = some q → rcP q ≤ rcP (t, S)
  | [], t, q, e => by
    rw [closeF] at e
    cases e
    exact Nat.le_refl _
  | u :: S, t, q, e => by
    rw [closeF] at e
    split at e
    · split at e
      · cases e
      · refine Nat.le_trans (rc_close e) ?_
        have h := rowK_len t.kd t.tk
        rw [rcP_cons, rcP_cons, List.map_cons, List.sum_cons]
        show (rowsB (u.tk ++ [rowK t.kd t.tk])).length + knN u.kd + _ ≤ (rowsB t.tk).length + knN t.kd + ((rowsB u.tk).length + knN u.kd + _)
        rw [rows_snocN]
        omega
    · cases e
      exact Nat.le_refl _
theorem rc_begin {x : Str} {p q : Rd} (e : beginF x p = some q) : rcP q ≤ rcP p + 1 := by
  unfold beginF at e
  split at e
  · cases e
    rw [rcP_cons]
    show 0 + 1 + rcP p ≤ _
    omega
  · split at e
    · cases e
      rw [rcP_cons]
      show 0 + 1 + rcP p ≤ _
      omega
    · cases hr : rowOf x with
      | none => rw [hr] at e; cases e
      | some r =>
        rw [hr] at e
        cases e
        obtain ⟨t, S⟩ := p
        have hp := rowOf_plain hr
        have h1 : (rowsR r).length = 1 := by cases r <;> first | rfl | cases hp
        rw [rcP_cons, rcP_cons]
        show (rowsB (t.tk ++ [r])).length + knN t.kd + (S.map rcO).sum ≤ (rowsB t.tk).length + knN t.kd + (S.map rcO).sum + 1
        rw [rows_snocN, h1]
        omega
theorem rc_turn {p q : Rd} (e : turnF p = some q) : rcP q ≤ rcP p + 1 := by
  unfold turnF at e
  split at e
  · rename_i h1
    cases e
    obtain ⟨t, S⟩ := p
    rw [rcP_cons, rcP_cons]
    show 0 + ((rowsB t.tk).length + 1) + (S.map rcO).sum ≤ (rowsB t.tk).length + knN t.kd + (S.map rcO).sum + 1
    omega
  · cases e
theorem rc_take {x : Str} {p q : Rd} (e : takeF x p = some q) : rcP q ≤ rcP p + 1 := by
  have after : ∀ {n : Nat} {f : Rd → Option Rd}, (∀ {r : Rd}, f r = some q → rcP q ≤ rcP r + 1) → (closeF n p.1 p.2).bind f = some q → rcP q ≤ rcP p + 1 := by
    intro n f hf e
    cases hc : closeF n p.1 p.2 with
    | none => rw [hc] at e; cases e
    | some r =>
      rw [hc] at e
      have h1 := hf e
      have h2 := rc_close hc
      exact Nat.le_trans h1 (Nat.succ_le_succ h2)
  unfold takeF at e
  split at e
  · cases e
  · split at e
    · split at e
      · exact after (fun e => rc_turn e) e
      · cases e
    · exact after (fun e => rc_begin e) e
theorem run_keep : ∀ (l : List Str) (n : Nat) (p q : Rd), runE n l p = .ok q → wfP p → wfP q ∧ rcP q ≤ rcP p + l.length
  | [], n, p, q, e, h => by
    rw [runE] at e
    cases e
    exact ⟨h, Nat.le_refl _⟩
  | x :: l, n, p, q, e, h => by
    rw [runE] at e
    split at e
    · cases e
    · rename_i r hr
      obtain ⟨h1, h2⟩ := run_keep l _ r q e (wf_take hr h)
      have h3 := rc_take hr
      refine ⟨h1, ?_⟩
      rw [List.length_cons]
      omega
theorem read_keep {ls : List Str} {last : Str} {b : List Rw} (h : readE ls last = .ok b) : wfB b ∧ (rowsB b).length ≤ ls.length := by
  unfold readE at h
  split at h
  · cases h
  · rename_i p hp
    have h0 : wfP ((⟨.base, []⟩, []) : Rd) := fun o ho => by
      rw [List.mem_singleton.mp ho]
      exact ⟨trivial, fun a z => by cases z⟩
    obtain ⟨h1, h2⟩ := run_keep ls 1 _ p hp h0
    have e0 : rcP ((⟨.base, []⟩, []) : Rd) = 1 := rfl
    split at h
    · cases h
    · split at h
      · cases h
      · rename_i r hr
        cases h
        have h3 := wf_close hr h1
        have h4 := rc_close hr
        obtain ⟨t, S⟩ := r
        refine ⟨h3.top.1, ?_⟩
        rw [rcP_cons] at h4
        have hk : 1 ≤ knN t.kd := by
          cases t.kd with
          | ei2 a => exact Nat.succ_le_succ (Nat.zero_le _)
          | base => exact Nat.le_refl _
          | ei1 => exact Nat.le_refl _
          | ag => exact Nat.le_refl _
        have h5 : (rowsB t.tk).length + knN t.kd + (S.map rcO).sum ≤ rcP p := h4
        rw [e0] at h2
        show (rowsB t.tk).length ≤ _
        omega
end PM
set_option Elab.async false
set_option linter.all false
set_option maxRecDepth 100000
set_option maxHeartbeats 4000000
/-! read_program, whatever it is given. -/
namespace K05
open PySem PySem.Spec PyProof.Rows L2 ZX PM ZR ZT TL
theorem _root_.L2.TyX.same {K : PySem.W.Frag} {H H' : Hp} {v : V} {t : Value} (s : Same H H') (h : TyX K H v t) : TyX K H' v t := by
  cases h with
  | base h =>
    cases h with
    | non => exact .base .non
    | bl x => exact .base (.bl x)
    | int i => exact .base (.int i)
    | str x => exact .base (.str x)
    | flt x => exact .base (.flt x)
    | lst e => exact .base (.lst (s _ _ e))
    | frz e => exact .base (.frz (s _ _ e))
    | tup e => exact .base (.tup (s _ _ e))
    | dK e => exact .base (.dK (s _ _ e))
    | dT e => exact .base (.dT (s _ _ e))
    | ins e cl ha hn ht hm => exact .base (.ins (s _ _ e) cl ha hn ht hm)
  | byt b => exact .byt b
  | set e => exact .set (s _ _ e)
  | kList e c => exact .kList e c
  | kTuple e c => exact .kTuple e c
  | kDict e c => exact .kDict e c
  | fTuple e => exact .fTuple (s _ _ e)
  | fDict e => exact .fDict (s _ _ e)
theorem NoStr.same {K : PySem.W.Frag} {H H' : Hp} {v : V} (s : Same H H') (h : NoStr K H v) : NoStr K H' v := by
  obtain ⟨t, ht, hk⟩ := h
  exact ⟨t, ht.same s, hk⟩
abbrev sRead_program : Stmt := top 38
/-- a class, as it is made -/
structure ClsMk (P : Program) (w : World) (K : PySem.W.Frag) (mg : Str → Option Value) (base : Heap) (CX : CXT) (x : Str) (C : Addr) (k : Nat) (ps : List Str) (sp : Sp) : Prop where
  ex : ∃ (f : Addr) (fd : FuncData), Mk K C f ∧ FnOk P w K mg base CX k f fd ps sp ∧ Binds K fd ps [] ∧ mg x = some (.ref C)
def spReadProg (K : PySem.W.Frag) (C CT CB : Addr) : Sp := fun vs H Q E => ∃ v : V, vs = [v] ∧
  ((NoStr K H v ∧ ∀ e H', Same H H' → H' e = some (.xd [("line", .int 0)]) → E (.ref CT) (some e) H') ∨
   (∃ tx ls last o, v = .str tx ∧ tx.length ≤ 90000 ∧ Txt.split tx lfS = ls ++ [last] ∧ ls.length ≤ 40000 ∧ (∀ b, readE ls last = .ok b → BadIs (.tup (bD b)) o) ∧
     (∀ n : Nat, readE ls last = .error n → ∀ e H', Same H H' → H' e = some (.xd [("line", .int n)]) → E (.ref CT) (some e) H') ∧
     (∀ b, readE ls last = .ok b → (o = none → ∀ x dx fs vb H', Same H H' → H' x = some (.ins C dx fs) → fs.lookup ("block" : Str) = some vb → BV K H' vb b → Q (.ref x) H') ∧
       ∀ i, o = some i → ∀ e H', Same H H' → H' e = some (.xd [("place", .int i)]) → E (.ref CB) (some e) H')))
section
variable {P : Program} {w : World} {K : PySem.W.Frag} {mg : Str → Option Value} {base : Heap} {C CO CR CT CB : Addr}
theorem scRead_program : FnScope ["text"] ["text"] (defScope sRead_program) := ⟨rfl, rfl, rfl, by decide +kernel, rfl, by decide +kernel, by decide +kernel⟩
theorem ok_read_program {f : Addr} {fd : FuncData} (F : FnP K "read_program" sRead_program f fd) (T : Bi mg) (MR : ClsMk P w K mg base CX0 "Reader" CR 3 ["self"] (spRdInit K CO CR)) (MP : ClsMk P w K mg base (L2.CX P w) "Program" C 16 ["self", "block"] (spInitD K C CB)) (C_read : CalX P w K mg base "read_with" 6 ["reader", "text"] (spReadWith K CO CR CT)) : FnOk P w K mg base (L2.CX P w) 18 f fd ["text"] (spReadProg K C CT CB) := by
  refine F.ok scRead_program (fun vs H Q E h => ?_) (fun cdv A outer s H vs Q E hr h => ?_)
  · obtain ⟨v, rfl, _⟩ := h
    rfl
  · obtain ⟨v, rfl, h⟩ := h
    obtain ⟨fR, fdR, mkR, GR, bR, gR⟩ := MR.ex
    obtain ⟨fP, fdP, mkP, GP, bP, gP⟩ := MP.ex
    have hr4 := hr.mono (show 4 ≤ 17 by decide)
    have hr6 := hr.mono (show 6 ≤ 17 by decide)
    refine ⟨_, (pss_one (ps_ret (pe_makeS mkP GP hr rfl gP bP (fun σ => passAt (takes_of rfl rfl rfl rfl) σ) (pa_cons (pcalS C_read hr6 (takes_of rfl rfl rfl rfl) rfl (pa_cons (pe_make0 mkR GR hr4 rfl gR bR .nil pass0) (pa_cons (pv 0) pa_nil))) pa_nil)))), ?_⟩
    refine fun x dx nx ndx nxd => ?_
    have s0 : Same H (upd (upd H dx (.own x)) x (.ins CR dx [])) := fun z o e => by
      rw [upd_ne (ne_of_none e nx), upd_ne (ne_of_none e ndx)]
      exact e
    refine ⟨x, dx, rfl, upd_same, fun H1 ol e0 k1 nol ne hR => ⟨rfl, ?_⟩⟩
    have s1 : Same H H1 := fun z o h => k1 z o (ne_of_none h nx) (s0 _ _ h)
    have s2 : ∀ {H2 : Hp}, Fm (ownL ol [e0]) H1 H2 → Same H H2 := fun {H2} f2 z o h => by
      refine f2.1 z o (fun m => ?_) (s1 _ _ h)
      rcases List.mem_cons.mp m with rfl | m
      · have := s0.free nol
        rw [h] at this
        cases this
      · rw [List.map_cons, List.map_nil, List.mem_singleton] at m
        subst m
        have := s0.free ne
        rw [h] at this
        cases this
    rcases h with ⟨hv, ke⟩ | ⟨tx, ls, last, o, rfl, htx, hsp, hls, hB, ke, k⟩
    · exact ⟨_, rfl, x, ol, e0, v, rfl, hR, .inl ⟨hv.same s1, fun e H2 f2 hx => ke e H2 (s2 f2) hx⟩⟩
    obtain ⟨ls', last', e1, _, hb⟩ := split_last tx
    rw [← e1, hsp] at hb
    refine ⟨_, rfl, x, ol, e0, .str tx, rfl, hR, .inr ⟨tx, ls, last, rfl, htx, hsp, by omega, fun l hl => Nat.le_trans (hb l (List.mem_append_left _ hl)) htx, fun n hn e H2 f2 hx => ke n hn e H2 (s2 f2) hx, fun b hbk u H2 f2 hu => ?_⟩⟩
    obtain ⟨wf, hn⟩ := read_keep hbk
    have ho := hB b hbk
    obtain ⟨kn, ki⟩ := k b hbk
    obtain ⟨va, vs, rfl, hS, ht⟩ := Tv.tupI hu
    refine fun y dy ny ndy nyd => ?_
    have s3 : Same H2 (upd (upd H2 dy (.own y)) y (.ins C dy [])) := fun z o e => by
      rw [upd_ne (ne_of_none e ny), upd_ne (ne_of_none e ndy)]
      exact e
    have hsz := sz_bD b wf
    refine ⟨y, dy, .ref va, .tup (bD b), o, rfl, upd_same, (Td.tup hS (Tvs.wb b _ wf ht)).kd s3.kd, by rw [szD]; omega, ho, fun eo fs H3 k3 p3 hy hlk => ⟨rfl, ?_⟩, fun i eo e H3 sm hx => ki i eo e H3 ((s2 f2).trans (s3.trans sm)) hx⟩
    exact kn eo y dy fs (.ref va) H3 (fun z o h => k3 z o (ne_of_none h ((s2 f2).free ny)) (s3 _ _ (s2 f2 _ _ h))) hy hlk (Tv.pt p3 (Tv.pt s3.pt hu))
end
end K05
set_option Elab.async false
set_option linter.all false
set_option maxRecDepth 100000
set_option maxHeartbeats 4000000
/-! The law's reading of a line, told by cuts. -/
namespace PM
open PySem PySem.Spec PyProof.Rows L2 ZX ZR ZT TL
theorem sIx_to (n k : Nat) : HT.sIx n n (some (k : Int)) = min k n := HT.sIx_nat n n k
theorem cut_to (x : Str) (k : Nat) : tl (cutS x none (some (k : Int))) = (tl x).take k := by
  show (List.toArray _).toList = _
  rw [HT.sIx_none, HT.sIx_nat, List.drop_zero, Nat.sub_zero]
  show (tl x).take (min k x.length) = _
  rw [len_tl]
  by_cases h : k ≤ (tl x).length
  · rw [Nat.min_eq_left h]
  · rw [Nat.min_eq_right (by omega), List.take_length, List.take_of_length_le (by omega)]
theorem cut_from (x : Str) (k : Nat) : tl (cutS x (some (k : Int)) none) = (tl x).drop k := by
  show (List.toArray _).toList = _
  rw [HT.sIx_none, HT.sIx_nat]
  show ((tl x).drop (min k x.length)).take (x.length - min k x.length) = _
  rw [len_tl]
  by_cases h : k ≤ (tl x).length
  · rw [Nat.min_eq_left h, List.take_of_length_le (by rw [List.length_drop]; exact Nat.le_refl _)]
  · rw [Nat.min_eq_right (by omega), List.drop_length, List.drop_of_length_le (by omega), List.take_nil]
theorem cut_mid (x : Str) (k : Nat) : tl (cutS x (some (k : Int)) (some (-1))) = ((tl x).drop k).dropLast := by
  show (List.toArray _).toList = _
  rw [HT.sIx_nat]
  have e0 : HT.sIx x.length x.length (some (-1)) = x.length - 1 := by
    show ((-1 : Int) + (x.length : Int)).toNat = _
    omega
  rw [e0]
  show ((tl x).drop (min k x.length)).take (x.length - 1 - min k x.length) = _
  rw [len_tl, List.dropLast_eq_take, List.length_drop]
  by_cases h : k ≤ (tl x).length
  · rw [Nat.min_eq_left h, Nat.sub_right_comm]
  · rw [Nat.min_eq_right (by omega), List.drop_length, List.drop_of_length_le (by omega : (tl x).length ≤ k)]
    simp
theorem cut_last (x : Str) : tl (cutS x (some (-1)) none) = (tl x).drop ((tl x).length - 1) := by
  show (List.toArray _).toList = _
  rw [HT.sIx_none]
  have e0 : HT.sIx x.length 0 (some (-1)) = x.length - 1 := by
    show ((-1 : Int) + (x.length : Int)).toNat = _
    omega
  rw [e0]
  show ((tl x).drop (x.length - 1)).take (x.length - (x.length - 1)) = _
  rw [len_tl, List.take_of_length_le (by rw [List.length_drop]; exact Nat.le_refl _)]
theorem sub_to (x : Str) (i : Nat) : Builtin.Str.strSub x 0 i = cutS x none (some (i : Int)) := ext_tl (by rw [tl_strSub, cut_to, List.drop_zero, Nat.sub_zero])
theorem sub_from (x : Str) (i : Nat) : Builtin.Str.strSub x i x.length = cutS x (some (i : Int)) none := ext_tl (by rw [tl_strSub_end, cut_from])
theorem part_no {x y : Str} (h : Builtin.Str.occurrences x y 0 x.length 1 = []) : Txt.partition x y = (x, Str.empty, Str.empty) := by
  unfold Txt.partition
  rw [h]
theorem part_at {x y : Str} {i : Nat} {r : List Nat} (h : Builtin.Str.occurrences x y 0 x.length 1 = i :: r) : Txt.partition x y = (cutS x none (some (i : Int)), y, cutS x (some ((i + y.length : Nat) : Int)) none) := by
  unfold Txt.partition
  rw [h, ← sub_to, ← sub_from]
/-- a note's text, however many parts -/
def noteP (n t : Str) : Option Rw :=
  if nameB (Txt.partition t ("(" : Str)).1 && Txt.endswith (Txt.partition t ("(" : Str)).2.2 (")" : Str) then
    (if ((partsT (Txt.partition t ("(" : Str)).2.2).map nameB).all id then some (.note n (Txt.partition t ("(" : Str)).1 (partsT (Txt.partition t ("(" : Str)).2.2)) else none)
  else none
def manyR : Rw → Bool
  | .note _ _ ps => decide (3 < ps.length)
  | _ => false
def plainP (x : Str) : Option Rw :=
  if askM "ask" x then some (.ask (askT "ask" x))
  else if askM "print" x then some (.prt (askT "print" x))
  else if nameB (Txt.partition x (" = " : Str)).1 then
    (if nameB (Txt.partition x (" = " : Str)).2.2 then some (.copy (Txt.partition x (" = " : Str)).1 (Txt.partition x (" = " : Str)).2.2)
    else if intB (Txt.partition x (" = " : Str)).2.2 then some (.give (Txt.partition x (" = " : Str)).1 (intV (Txt.partition x (" = " : Str)).2.2))
    else noteP (Txt.partition x (" = " : Str)).1 (Txt.partition x (" = " : Str)).2.2)
  else none
def few (r : Rw) : Option Rw := if manyR r then none else some r
theorem noteOf_few (n t : Str) : noteOf n t = (noteP n t).bind few := by
  unfold noteOf noteP
  split
  · cases h2 : ((partsT (Txt.partition t ("(" : Str)).2.2).map nameB).all id with
    | false =>
      rw [Bool.and_false, if_neg (by decide)]
      rfl
    | true =>
      rw [Bool.and_true, if_pos rfl]
      show _ = few _
      unfold few manyR
      by_cases h : (partsT (Txt.partition t ("(" : Str)).2.2).length ≤ 3
      · rw [if_pos (decide_eq_true h), if_neg (by simpa using h)]
      · rw [if_neg (by simpa using h), if_pos (by simpa using h)]
  · rfl
theorem rowOf_few (x : Str) : rowOf x = (plainP x).bind few := by
  unfold rowOf plainP
  split
  · rfl
  · split
    · rfl
    · split
      · split
        · rfl
        · split
          · rfl
          · exact noteOf_few _ _
      · rfl
end PM
set_option Elab.async false
set_option linter.all false
set_option maxRecDepth 100000
set_option maxHeartbeats 4000000
/-! _law_number. -/
namespace PM
open PySem PySem.Spec PyProof.Rows L2 ZX ZR ZT TL
/-- what may be a number's digits -/
def digT (x : Str) : Str := if cutS x none (some 1) = ("-" : Str) then cutS x (some 1) none else x
theorem dig_rp (x : Str) : digT x = Txt.removeprefix x ("-" : Str) := by
  have e1 : tl ("-" : Str) = [45] := by decide +kernel
  have hc : tl (cutS x none (some 1)) = (tl x).take 1 := cut_to x 1
  unfold digT
  rcases rp_or x ("-" : Str) with ⟨hp, ht⟩ | ⟨hp, ht⟩
  · rw [e1] at hp ht
    rw [if_pos]
    · refine ext_tl ?_
      rw [ht]
      exact cut_from x 1
    · refine ext_tl ?_
      rw [hc, e1]
      unfold pre at hp
      simpa using hp
  · rw [e1] at hp
    rw [if_neg, ht]
    intro h
    rw [h, e1] at hc
    have hp : ((tl x).take 1 == [45]) = false := hp
    rw [← hc] at hp
    exact absurd hp (by decide)
theorem intB_dig (x : Str) : intB x = (decide (1 ≤ (digT x).length) && decide ((digT x).length ≤ 30) && ((tl (digT x)).map digC).all id && ((tl (digT x)).head? != some 48 || x == ("0" : Str))) := by
  rw [dig_rp]
  unfold intB numB
  have e1 : tl ("-" : Str) = [45] := by decide +kernel
  have e3 : tl ("0" : Str) = [48] := by decide +kernel
  have e4 : tl ("-0" : Str) = [45, 48] := by decide +kernel
  rcases rp_or x ("-" : Str) with ⟨hp, ht⟩ | ⟨hp, ht⟩
  · rw [e1] at hp ht
    have hs := pre_split hp
    have htl : tl x = 45 :: tl (Txt.removeprefix x ("-" : Str)) := by
      rw [ht]
      exact hs
    generalize Txt.removeprefix x ("-" : Str) = D at *
    have e0 : (x == ("0" : Str)) = false := by
      rw [beq_eq_false_iff_ne]
      intro h
      rw [h, e3] at htl
      cases htl
    rw [e0, Bool.or_false]
    by_cases hD : D = ("0" : Str)
    · have hx : x = ("-0" : Str) := ext_tl (by rw [htl, hD, e3, e4])
      have h1 : (x != ("-0" : Str)) = false := by rw [hx]; decide +kernel
      have h2 : ((tl D).head? != some 48) = false := by rw [hD, e3]; decide
      rw [h1, h2, Bool.false_and, Bool.and_false]
    · have h1 : (x != ("-0" : Str)) = true := by
        rw [bne_iff_ne]
        intro h
        rw [h, e4] at htl
        exact hD (ext_tl (by rw [e3]; injection htl with _ h2; exact h2.symm))
      have h2 : (D == ("0" : Str)) = false := by rw [beq_eq_false_iff_ne]; exact hD
      rw [h1, h2, Bool.or_false, Bool.true_and, Bool.and_assoc, Bool.and_assoc, Bool.and_assoc]
  · rw [e1] at hp
    rw [ht]
    have h1 : (x != ("-0" : Str)) = true := by
      rw [bne_iff_ne]
      intro h
      rw [h, e4] at hp
      exact absurd hp (by decide)
    rw [h1, Bool.true_and, Bool.and_assoc, Bool.and_assoc, Bool.and_assoc]
end PM
namespace K05
open PySem PySem.Spec PyProof.Rows L2 ZX PM ZR ZT TL
abbrev sLNumber : Stmt := top 57
def numV (x : Str) : V := if intB x then .int (intV x) else .non
def spLNumber : Sp := fun vs H Q _ => ∃ x : Str, vs = [.str x] ∧ x.length ≤ 90000 ∧ ∀ H', Same H H' → Q (numV x) H'
section
variable {P : Program} {w : World} {K : PySem.W.Frag} {mg : Str → Option Value} {base : Heap}
theorem scLNumber : FnScope ["_law_word", "_law_digits", "_law_sign"] ["_law_word"] (defScope sLNumber) := ⟨rfl, rfl, rfl, by decide +kernel, rfl, by decide +kernel, by decide +kernel⟩
theorem ok_lnumber {f : Addr} {fd : FuncData} (F : FnP K "_law_number" sLNumber f fd) (T : Bi mg) : FnOk P w K mg base CX0 1 f fd ["_law_word"] spLNumber := by
  refine F.ok scLNumber (fun vs H Q E h => ?_) (fun cdv A outer s H vs Q E hr h => ?_)
  · obtain ⟨x, rfl, _⟩ := h
    rfl
  · obtain ⟨x, rfl, hx, k⟩ := h
    refine ⟨_, PSs.nox (pss_cut (ps_set (i := 1) scLNumber.nd rfl (Or.inl rfl) (pe_ifExp (pt_cmpR op_eq (pe_slice sl_str (pv 0) po_none (po_some pe_int)) pe_str (nomark _)) (pe_slice sl_str (pv 0) (po_some pe_int) po_none) (pv 0)))
    (pss_cons (ps_if (PW.pt (pw_or (pt_cmpR op_eq (pv 1) pe_str (nomark _)) (pw_or (pt_cmpR op_gt (pe_callB call_len_str (by rfl) T.b_len (by decide +kernel) (pa_cons (pv 1) pa_nil)) pe_int (nomark _)) (pw_or1 (pt_not (pt_val (pe_callB (cr_all rfl) (by rfl) T.b_all (by decide +kernel) (pa_cons (pe_lcS (own := [("_law_sign", 2)]) (g := gName 2) (tt := tYes) (by rfl) scLNumber.nd (pi_str (pv 1)) (blkOk_by (N := ["_law_word", "_law_digits", "_law_sign"]) (sc := defScope sLNumber) (by decide +kernel)) (fun _ _ _ _ _ => (pg_name (i := 2) scLNumber.nd rfl (Or.inl rfl))) (fun _ _ _ _ _ => pts_nil) (fun _ _ _ _ _ => (pe_cmpR op_in_sign (pv 2) pe_str (by rfl)))) pa_nil)))))))) (pss_one (ps_ret pe_non)) pss_nil)
    (pss_cons (ps_if (PW.pt (pw_and (pt_cmpR op_eq (pe_ix ix_str (pv 1) pe_int (fun _ _ => rfl)) pe_str (nomark _)) (pw_and1 (pt_cmpR op_ne (pv 0) pe_str (nomark _))))) (pss_one (ps_ret pe_non)) pss_nil)
    (pss_one (ps_ret (pe_callTy call_int_str (by rfl) T.b_int (by decide +kernel) (pa_cons (pv 0) pa_nil))))))), ?_⟩
    have hz : x.length ≤ sizeLine := lnB hx
    have k0 : intB x = false → Q .non H := fun e => by
      have := k H fun _ _ h => h
      rw [numV, e] at this
      exact this
    have hdl : (digT x).length ≤ x.length := by rw [dig_rp]; exact rp_len _ _
    refine ⟨fun σ2 H2 => σ2 = [some (.str x), some (.str (digT x)), none] ∧ H2 = H, ?_, ?_⟩
    · refine ⟨_, rfl, 1, rfl, x, rfl, hz, rfl, _, rfl, ?_⟩
      rw [dec_str]
      by_cases h1 : cutS x none (some 1) = ("-" : Str)
      · refine ifB (by simpa using h1) ⟨_, rfl, 1, rfl, x, rfl, hz, ?_⟩
        rw [digT, if_pos h1]
        exact ⟨rfl, rfl⟩
      · refine ifBF (by simpa using h1) ⟨_, rfl, ?_⟩
        rw [digT, if_neg h1]
        exact ⟨rfl, rfl⟩
    rintro σ2 H2 ⟨rfl, hH2⟩
    rw [hH2]
    have e := intB_dig x
    generalize digT x = D at *
    have hzD : D.length ≤ sizeLine := Nat.le_trans hdl hz
    refine ⟨_, rfl, rfl, _, rfl, ?_⟩
    rw [dec_str]
    by_cases hD : D = ("" : Str)
    · refine ifB (by simpa using hD) (k0 ?_)
      have h0 : D.length = 0 := by rw [hD]; decide +kernel
      rw [e, h0]
      rfl
    refine ifBF (by simpa using hD) ⟨_, rfl, D, rfl, hzD, _, _, rfl, rfl, _, rfl, ?_⟩
    have h1 : 1 ≤ D.length := by
      by_cases h0 : D.length = 0
      · refine absurd (ext_tl ?_) hD
        rw [len_tl] at h0
        rw [List.length_eq_zero_iff.mp h0]
        decide +kernel
      · omega
    by_cases h30 : D.length ≤ 30
    rotate_left
    · refine ifD (by show (30 : Int) < ((D.length : Nat) : Int); omega) (k0 ?_)
      rw [e, decide_eq_false h30, Bool.and_false]
      rfl
    refine ifDF (by show ¬ (30 : Int) < ((D.length : Nat) : Int); omega) ?_
    refine lc_into ?_
    refine ⟨_, rfl, _, rfl, ?_⟩
    refine lc_overA (p := none) (as := tl D) (Rel := fun _ c y => y = .bl (digC c)) it_str ?_ (fun _ _ _ _ _ h => h) (fun _ h => nomatch h) ?_ (fun _ _ _ => trivial) ?_ ?_
    · rw [letters_len]
      show D.cps.toList.length = _
      rw [Array.length_toList]
    · rw [letters_len]
      exact Nat.lt_of_le_of_lt h30 (by decide)
    · intro i z c hzz hc H' _ _ R kk
      have ez : z = .str ⟨#[c]⟩ := by
        rw [letters, List.getElem?_map] at hzz
        have hc' : D.cps.toList[i]? = some c := hc
        rw [hc'] at hzz
        exact (Option.some.inj hzz).symm
      subst ez
      refine ⟨rfl, _, rfl, c, _, rfl, rfl, ?_⟩
      rw [dig_in]
      exact kk _ _ Kq.refl (Pt.refl _) rfl
    · intro DD ys H' kq _ _ hDD all
      have ea := All2.map all
      subst ea
      refine ⟨DD, (tl D).map digC, rfl, SqL.of (by rw [hDD, List.map_map]; rfl), _, rfl, ?_⟩
      have k' := k H' kq.same
      rw [decide_eq_true h1, decide_eq_true h30, Bool.true_and, Bool.true_and] at e
      rw [numV, e] at k'
      cases hd : ((tl D).map digC).all id with
      | false =>
        rw [hd, Bool.false_and] at k'
        exact k'
      | true =>
        rw [hd, Bool.true_and] at k' e
        obtain ⟨c, cs, hcs⟩ : ∃ c cs, tl D = c :: cs := by
          cases e2 : tl D with
          | nil =>
            rw [len_tl, e2] at h1
            exact absurd h1 (by decide)
          | cons c cs => exact ⟨c, cs, rfl⟩
        rw [hcs] at k' e
        have hci : D.cps.toList = c :: cs := hcs
        have good : intB x = true → ∃ (a : Str) (n : Int), [V.str x] = [V.str a] ∧ PySem.intText? a = some n ∧ a.length ≤ 640 ∧ Q (V.int n) H' := fun hi => by
          have h31 := intB_len hi
          rw [← e, hi, if_pos rfl] at k'
          exact ⟨x, intV x, rfl, int_some hi (by omega), by omega, k'⟩
        refine ⟨_, rfl, _, _, c, rfl, rfl, hzD, by rw [hci]; exact atI_nat (j := 0) rfl, ?_⟩
        have e0 : (Str.ofString "0") = (⟨#[48]⟩ : Str) := by decide +kernel
        refine ⟨rfl, _, rfl, ?_⟩
        by_cases hc : c = 48
        · subst hc
          have ed : decide (V.str ⟨#[48]⟩ = V.str (Str.ofString "0")) = true := decide_eq_true (by rw [e0])
          have e48 : ((48 :: cs : List Nat).head? != some 48) = false := by simp
          rw [e48, Bool.false_or] at k' e
          refine ifB (by rw [ed]) ⟨_, rfl, rfl, _, rfl, ?_⟩
          rw [dec_str]
          by_cases hx0 : x = ("0" : Str)
          · refine ifBF (by simpa using hx0) ⟨_, rfl, good ?_⟩
            rw [e]
            simpa using hx0
          · refine ifB (by simpa using hx0) ?_
            have h2 : (x == ("0" : Str)) = false := by rw [beq_eq_false_iff_ne]; exact hx0
            rw [h2] at k'
            exact k'
        · have ed : decide (V.str ⟨#[c]⟩ = V.str (Str.ofString "0")) = false := decide_eq_false fun e => hc (by
            rw [e0] at e
            have := congrArg (fun v => match v with | V.str z => z.cps.toList | _ => []) e
            simpa using this)
          have e48 : ((c :: cs).head? != some 48) = true := by
            simp [hc]
          rw [e48, Bool.true_or] at e
          exact ifBF (by rw [ed]) ⟨_, rfl, good e⟩
end
end K05
set_option Elab.async false
set_option linter.all false
set_option maxRecDepth 100000
set_option maxHeartbeats 4000000
/-! _law_plain. -/
namespace PM
open PySem PySem.Spec PyProof.Rows L2 ZX ZR ZT TL
theorem ask_cut (w x : Str) : askM w x = (cutS x none (some ((w.length + 1 : Nat) : Int)) == w ++ (" " : Str) && nameB (cutS x (some ((w.length + 1 : Nat) : Int)) none)) ∧ (askM w x = true → askT w x = cutS x (some ((w.length + 1 : Nat) : Int)) none) := by
  have h1 : (" " : Str).length = 1 := by decide +kernel
  have hl : (tl (w ++ (" " : Str))).length = w.length + 1 := by rw [← len_tl, len_app, h1]
  have hc := cut_to x (w.length + 1)
  have hf := cut_from x (w.length + 1)
  unfold askM askT
  rcases rp_or x (w ++ (" " : Str)) with ⟨hp, ht⟩ | ⟨hp, ht⟩
  · rw [hl] at ht
    have e : Txt.removeprefix x (w ++ (" " : Str)) = cutS x (some ((w.length + 1 : Nat) : Int)) none := ext_tl (by rw [ht, hf])
    have hs := pre_split hp
    have e2 : (Txt.removeprefix x (w ++ (" " : Str)) != x) = true := by
      rw [bne_iff_ne]
      intro h
      have h3 := congrArg (fun z => (tl z).length) h
      have h3 : (tl (Txt.removeprefix x (w ++ (" " : Str)))).length = (tl x).length := h3
      rw [ht] at h3
      have h4 := congrArg List.length hs
      rw [List.length_append, hl] at h4
      rw [List.length_drop] at h3
      omega
    have e3 : (cutS x none (some ((w.length + 1 : Nat) : Int)) == w ++ (" " : Str)) = true := by
      rw [beq_iff_eq]
      refine ext_tl ?_
      rw [hc, hs, ← hl, List.take_left]
    rw [e2, e3, e]
    exact ⟨rfl, fun _ => rfl⟩
  · have e3 : (cutS x none (some ((w.length + 1 : Nat) : Int)) == w ++ (" " : Str)) = false := by
      rw [beq_eq_false_iff_ne]
      intro h
      have h2 := congrArg tl h
      rw [hc] at h2
      unfold pre at hp
      rw [hl, h2] at hp
      simp at hp
    rw [ht, e3]
    have e2 : (x != x) = false := by simp
    rw [e2, Bool.false_and, Bool.false_and]
    exact ⟨rfl, fun h => by cases h⟩
theorem nil_or (l : List Nat) : l = [] ∨ ∃ a c, l = a ++ [c] := by
  induction l with
  | nil => exact .inl rfl
  | cons x l ih =>
    rcases ih with rfl | ⟨a, c, rfl⟩
    · exact .inr ⟨[], x, rfl⟩
    · exact .inr ⟨x :: a, c, rfl⟩
theorem last_snoc (a : List Nat) (c : Nat) : (a ++ [c]).getLast? = some c := by simp
theorem drop_snoc (a : List Nat) (c : Nat) : (a ++ [c]).drop ((a ++ [c]).length - 1) = [c] := by simp
theorem ends_one (x : Str) : Txt.endswith x (")" : Str) = ((tl x).getLast? == some 41) := by
  have h1 : (")" : Str).length = 1 := by decide +kernel
  unfold Txt.endswith
  rw [sub_at, h1, tl_cl, len_tl]
  rcases nil_or (tl x) with h | ⟨a, c, h⟩
  · rw [h]
    rfl
  · rw [h, drop_snoc, last_snoc]
    have e : decide (0 + 1 ≤ (a ++ [c]).length) = true := decide_eq_true (by simp)
    rw [e, Bool.true_and]
    unfold pre
    by_cases hc : c = 41
    · rw [hc]; rfl
    · have e1 : (some c == some 41) = false := by simpa using hc
      rw [e1]
      simpa using hc
theorem cutl_one (x : Str) : (cutS x (some (-1)) none == (")" : Str)) = ((tl x).getLast? == some 41) := by
  have hc := cut_last x
  rcases nil_or (tl x) with h | ⟨a, c, h⟩
  · rw [h] at hc ⊢
    rw [beq_eq_false_iff_ne.mpr]
    · rfl
    · intro e
      rw [e, tl_cl] at hc
      cases hc
  · rw [h, drop_snoc] at hc
    rw [h, last_snoc]
    by_cases h41 : c = 41
    · rw [h41] at hc ⊢
      rw [beq_iff_eq.mpr (ext_tl (by rw [hc, tl_cl]))]
      rfl
    · rw [beq_eq_false_iff_ne.mpr]
      · simpa using fun e => h41 e
      · intro e
        rw [e, tl_cl] at hc
        injection hc with e2
        exact h41 e2.symm
theorem occ_drop {t : Str} {j : Nat} {r : List Nat} (h : Builtin.Str.occurrences t ("(" : Str) 0 t.length 1 = j :: r) : (tl t).drop j = 40 :: (tl t).drop (j + 1) := by
  rcases StrLaws.occ_head t ("(" : Str) 1 (Nat.le_refl 1) with ⟨h0, _⟩ | ⟨i, r2, h0, ⟨h1, h2⟩, _⟩
  · rw [h] at h0
    cases h0
  · rw [h] at h0
    injection h0 with e1 _
    subst e1
    rw [sub_at, tl_op] at h2
    have hs := pre_split h2
    rw [show ([40] : List Nat).length = 1 from rfl, List.drop_drop] at hs
    exact hs
theorem last_of {t : Str} {j : Nat} {r : List Nat} (h : Builtin.Str.occurrences t ("(" : Str) 0 t.length 1 = j :: r) : (cutS t (some (-1)) none == (")" : Str)) = Txt.endswith (cutS t (some ((j + 1 : Nat) : Int)) none) (")" : Str) := by
  rw [cutl_one, ends_one, cut_from]
  have hd := occ_drop h
  have e : tl t = (tl t).take j ++ (40 :: (tl t).drop (j + 1)) := by rw [← hd, List.take_append_drop]
  conv => lhs; rw [e]
  cases (tl t).drop (j + 1) with
  | nil => rw [last_snoc]; rfl
  | cons c l =>
    rcases nil_or (c :: l) with h0 | ⟨a, d, h0⟩
    · cases h0
    · rw [h0, show (tl t).take j ++ 40 :: (a ++ [d]) = ((tl t).take j ++ 40 :: a) ++ [d] by simp, last_snoc, last_snoc]
theorem cut_init (x : Str) : tl (cutS x none (some (-1))) = (tl x).dropLast := by
  show (List.toArray _).toList = _
  have e0 : HT.sIx x.length x.length (some (-1)) = x.length - 1 := by
    show ((-1 : Int) + (x.length : Int)).toNat = _
    omega
  rw [HT.sIx_none, e0, List.drop_zero, Nat.sub_zero]
  show (tl x).take (x.length - 1) = _
  rw [len_tl, List.dropLast_eq_take]
/-- what is between the brackets -/
theorem brk_of {t : Str} {j : Nat} : cutS t (some ((j + 1 : Nat) : Int)) (some (-1)) = cutS (cutS t (some ((j + 1 : Nat) : Int)) none) none (some (-1)) := ext_tl (by rw [cut_mid, cut_init, cut_from])
theorem inner_nil {R : Str} (h : Txt.endswith R (")" : Str) = true) : cutS R none (some (-1)) = ("" : Str) ↔ R = (")" : Str) := by
  have e0 : tl ("" : Str) = [] := by decide +kernel
  rw [ends_one] at h
  constructor
  · intro e
    have h2 := cut_init R
    rw [e, e0] at h2
    rcases nil_or (tl R) with h3 | ⟨a, c, h3⟩
    · rw [h3] at h
      cases h
    · rw [h3, List.dropLast_concat] at h2
      rw [h3, last_snoc] at h
      have hc : c = 41 := by simpa using h
      refine ext_tl ?_
      rw [h3, ← h2, hc, tl_cl]
      rfl
  · intro e
    refine ext_tl ?_
    rw [cut_init, e, tl_cl, e0]
    rfl
end PM
namespace K05
open PySem PySem.Spec PyProof.Rows L2 ZX PM ZR ZT TL
abbrev sLPlainT : Stmt := top 58
def spLPlainT (K : PySem.W.Frag) : Sp := fun vs H Q _ => ∃ x : Str, vs = [.str x] ∧ x.length ≤ 90000 ∧ ∀ v H', Same H H' → OptR K H' v (plainP x) → Q v H'
section
variable {P : Program} {w : World} {K : PySem.W.Frag} {mg : Str → Option Value} {base : Heap} {C : Addr}
theorem scLPlainT : FnScope ["_law_body", "_law_head", "_law_at", "_law_x", "_law_told_here", "_law_op", "_law_inner", "_law_parts", "_law_part"] ["_law_body"] (defScope sLPlainT) := ⟨rfl, rfl, rfl, by decide +kernel, rfl, by decide +kernel, by decide +kernel⟩
theorem ok_lplainT {f : Addr} {fd : FuncData} (F : FnP K "_law_plain" sLPlainT f fd) (T : Bi mg) (C_name : Cal P w K mg base "_law_is_name" 1 ["_law_thing"] (spNameD K C)) (C_number : Cal P w K mg base "_law_number" 1 ["_law_word"] spLNumber) : FnOk P w K mg base CX0 2 f fd ["_law_body"] (spLPlainT K) := by
  refine F.ok scLPlainT (fun vs H Q E h => ?_) (fun cdv A outer s H vs Q E hr h => ?_)
  · obtain ⟨x, rfl, _⟩ := h
    rfl
  · obtain ⟨x, rfl, hx, k⟩ := h
    refine ⟨_, PSs.nox (pss_cons (ps_for PassesOwn.never rfl (pi_list (pe_lst (pa_cons pe_str (pa_cons pe_str pa_nil)))) (pg_name (i := 1) scLPlainT.nd rfl (Or.inl rfl)) (pss_one (ps_if (PW.pt (pw_and (pt_cmpR op_eq (pe_slice sl_str (pv 0) po_none (po_some (pe_op op_add (pe_callB call_len_str (by rfl) T.b_len (by decide +kernel) (pa_cons (pv 1) pa_nil)) pe_int))) (pe_op op_add_str (pv 1) pe_str) (nomark _)) (pw_and1 (pt_val (pcal C_name hr rfl (pa_cons (pe_slice sl_str (pv 0) (po_some (pe_op op_add (pe_callB call_len_str (by rfl) T.b_len (by decide +kernel) (pa_cons (pv 1) pa_nil)) pe_int)) po_none) pa_nil)))))) (pss_one (ps_ret (pe_tup (pa_cons (pv 1) (pa_cons (pe_slice sl_str (pv 0) (po_some (pe_op op_add (pe_callB call_len_str (by rfl) T.b_len (by decide +kernel) (pa_cons (pv 1) pa_nil)) pe_int)) po_none) pa_nil))))) pss_nil)))
    (pss_cons (ps_if (pt_cmpR op_notin_str pe_str (pv 0) (by with_unfolding_all rfl)) (pss_one (ps_ret pe_non)) pss_nil)
    (pss_cons (ps_set (i := 2) scLPlainT.nd rfl (Or.inl rfl) (pe_m1 PySem.F.slot_str_index PySem.F.type_str_index mt_sindex (pv 0) pe_str))
    (pss_cut (ps_par (by rfl) scLPlainT.nd (i := 3) (j := 4) rfl rfl (by decide) rfl rfl (pa_cons (pe_slice sl_str (pv 0) po_none (po_some (pv 2))) (pa_cons (pe_slice sl_str (pv 0) (po_some (pe_op op_add (pv 2) pe_int)) po_none) pa_nil)) (by rfl))
    (pss_cons (ps_if (pt_not (pt_val (pcal C_name hr rfl (pa_cons (pv 3) pa_nil)))) (pss_one (ps_ret pe_non)) pss_nil)
    (pss_cons (ps_if (pt_val (pcal C_name hr rfl (pa_cons (pv 4) pa_nil))) (pss_one (ps_ret (pe_tup (pa_cons pe_str (pa_cons (pv 3) (pa_cons (pv 4) pa_nil)))))) pss_nil)
    (pss_cons (ps_if (pt_cmpR op_notN (pcal C_number hr rfl (pa_cons (pv 4) pa_nil)) pe_non (nomark _)) (pss_one (ps_ret (pe_tup (pa_cons pe_str (pa_cons (pv 3) (pa_cons (pcal C_number hr rfl (pa_cons (pv 4) pa_nil)) pa_nil)))))) pss_nil)
    (pss_cons (ps_if (PW.pt (pw_or (pt_cmpR op_notin_str pe_str (pv 4) (by with_unfolding_all rfl)) (pw_or1 (pt_cmpR op_ne (pe_slice sl_str (pv 4) (po_some (pe_un un_neg pe_int)) po_none) pe_str (nomark _))))) (pss_one (ps_ret pe_non)) pss_nil)
    (pss_cut (ps_par (by rfl) scLPlainT.nd (i := 5) (j := 6) rfl rfl (by decide) rfl rfl (pa_cons (pe_slice sl_str (pv 4) po_none (po_some (pe_m1 PySem.F.slot_str_index PySem.F.type_str_index mt_sindex (pv 4) pe_str))) (pa_cons (pe_slice sl_str (pv 4) (po_some (pe_op op_add (pe_m1 PySem.F.slot_str_index PySem.F.type_str_index mt_sindex (pv 4) pe_str) pe_int)) (po_some (pe_un un_neg pe_int))) pa_nil)) (by rfl))
    (pss_cut (ps_set (i := 7) scLPlainT.nd rfl (Or.inl rfl) (pe_ifExp (pt_cmpR op_ne (pv 6) pe_str (nomark _)) (pe_split (pv 6) pe_str) (pe_lst pa_nil)))
    (pss_cons (ps_if (PW.pt (pw_or (pt_not (pt_val (pcal C_name hr rfl (pa_cons (pv 5) pa_nil)))) (pw_or1 (pt_not (pt_val (pe_callB (cr_all rfl) (by rfl) T.b_all (by decide +kernel) (pa_cons (pe_lcS (own := [("_law_part", 8)]) (g := gName 8) (tt := tYes) (by rfl) scLPlainT.nd (pi_list (pv 7)) (blkOk_by (N := ["_law_body", "_law_head", "_law_at", "_law_x", "_law_told_here", "_law_op", "_law_inner", "_law_parts", "_law_part"]) (sc := defScope sLPlainT) (by decide +kernel)) (fun _ _ _ _ _ => (pg_name (i := 8) scLPlainT.nd rfl (Or.inl rfl))) (fun _ _ _ _ _ => pts_nil) (fun _ _ _ _ _ => (pcal C_name hr rfl (pa_cons (pv 8) pa_nil)))) pa_nil))))))) (pss_one (ps_ret pe_non)) pss_nil)
    (pss_one (ps_ret (pe_tup (pa_cons pe_str (pa_cons (pv 3) (pa_cons (pv 5) (pa_cons (pe_callTy call_tuple_of (by rfl) T.b_tuple (by decide +kernel) (pa_cons (pv 7) pa_nil)) pa_nil)))))))))))))))))), ?_⟩
    have hz : x.length ≤ sizeLine := lnB hx
    refine ⟨by decide, fun l nl => ⟨l, rfl, ⟨_, SqL.of upd_same⟩, ?_⟩⟩
    have s0 := same_new (o := .lst [V.str "ask", V.str "print"]) nl
    refine for_list (xs := [V.str "ask", V.str "print"]) (fun i σ' H' => ∃ y, σ' = [some (.str x), y, none, none, none, none, none, none, none] ∧ Same H H' ∧ H' l = some (.lst [V.str "ask", V.str "print"]) ∧ (1 ≤ i → askM "ask" x = false) ∧ (2 ≤ i → askM "print" x = false)) ⟨_, rfl, s0, upd_same, fun h => absurd h (by decide), fun h => absurd h (by decide)⟩ (fun _ _ H' _ h => ?_) ?_ ?_
    · obtain ⟨_, _, _, h, _⟩ := h
      exact SqL.of h
    · rintro i xv σ' H' hxx ⟨y, rfl, sm, hl, h1a, h2a⟩
      match i, hxx with
      | 0, hxx =>
        cases hxx
        have hw : ("ask" : Str).length = 3 := by decide +kernel
        have h1 : (" " : Str).length = 1 := by decide +kernel
        obtain ⟨ec, et⟩ := ask_cut "ask" x
        refine ⟨_, rfl, _, rfl, ("ask" : Str), rfl, lnS (n := 80) (by rw [hw]; decide), _, _, rfl, rfl, _, rfl, x, rfl, hz, _, rfl, _, _, rfl, rfl, lnS (n := 80) (by show ("ask" : Str).length + (" " : Str).length ≤ 80; rw [hw, h1]; decide), rfl, _, rfl, ?_⟩
        rw [dec_str]
        show if (cutS x none (some ((("ask" : Str).length + 1 : Nat) : Int)) == ("ask" : Str) ++ (" " : Str)) = true then _ else _
        have hcl : (cutS x (some ((("ask" : Str).length + 1 : Nat) : Int)) none).length ≤ x.length := cutS_length _ _ _
        cases hc : (cutS x none (some ((("ask" : Str).length + 1 : Nat) : Int)) == ("ask" : Str) ++ (" " : Str)) with
        | false =>
          rw [hc, Bool.false_and] at ec
          exact ifBF rfl ⟨_, rfl, sm, hl, fun _ => ec, fun h => absurd h (by decide)⟩
        | true =>
          rw [hc, Bool.true_and] at ec
          refine ifB rfl ⟨_, rfl, _, rfl, ("ask" : Str), rfl, lnS (n := 80) (by rw [hw]; decide), _, _, rfl, rfl, _, rfl, x, rfl, hz, .str (cutS x (some ((("ask" : Str).length + 1 : Nat) : Int)) none), .str (cutS x (some ((("ask" : Str).length + 1 : Nat) : Int)) none), rfl, .str _ (by omega), fun H2 s2 => ?_⟩
          cases hn : nameB (cutS x (some ((("ask" : Str).length + 1 : Nat) : Int)) none) with
          | false =>
            rw [hn] at ec
            exact ⟨false, by show V.bl (nameB _) = _; rw [hn], _, rfl, sm.trans s2, s2 _ _ hl, fun _ => ec, fun h => absurd h (by decide)⟩
          | true =>
            rw [hn] at ec
            refine ⟨true, by show V.bl (nameB _) = _; rw [hn], _, rfl, _, rfl, _, rfl, ("ask" : Str), rfl, lnS (n := 80) (by rw [hw]; decide), _, _, rfl, rfl, _, rfl, x, rfl, hz, by show 2 ≤ sizeLine; decide, fun q nq => ?_⟩
            refine k _ _ ((sm.trans s2).trans (same_new nq)) ?_
            have er : plainP x = some (.ask (askT "ask" x)) := by
              unfold plainP
              rw [if_pos ec]
            rw [er, et ec]
            exact .tup (.inl (.inl upd_same)) (.cons (.str _) (.cons (.str _) .nil))
      | 1, hxx =>
        cases hxx
        have hw : ("print" : Str).length = 5 := by decide +kernel
        have h1 : (" " : Str).length = 1 := by decide +kernel
        obtain ⟨ec, et⟩ := ask_cut "print" x
        refine ⟨_, rfl, _, rfl, ("print" : Str), rfl, lnS (n := 80) (by rw [hw]; decide), _, _, rfl, rfl, _, rfl, x, rfl, hz, _, rfl, _, _, rfl, rfl, lnS (n := 80) (by show ("print" : Str).length + (" " : Str).length ≤ 80; rw [hw, h1]; decide), rfl, _, rfl, ?_⟩
        rw [dec_str]
        show if (cutS x none (some ((("print" : Str).length + 1 : Nat) : Int)) == ("print" : Str) ++ (" " : Str)) = true then _ else _
        have hcl : (cutS x (some ((("print" : Str).length + 1 : Nat) : Int)) none).length ≤ x.length := cutS_length _ _ _
        cases hc : (cutS x none (some ((("print" : Str).length + 1 : Nat) : Int)) == ("print" : Str) ++ (" " : Str)) with
        | false =>
          rw [hc, Bool.false_and] at ec
          exact ifBF rfl ⟨_, rfl, sm, hl, fun _ => h1a (by decide), fun _ => ec⟩
        | true =>
          rw [hc, Bool.true_and] at ec
          refine ifB rfl ⟨_, rfl, _, rfl, ("print" : Str), rfl, lnS (n := 80) (by rw [hw]; decide), _, _, rfl, rfl, _, rfl, x, rfl, hz, .str (cutS x (some ((("print" : Str).length + 1 : Nat) : Int)) none), .str (cutS x (some ((("print" : Str).length + 1 : Nat) : Int)) none), rfl, .str _ (by omega), fun H2 s2 => ?_⟩
          cases hn : nameB (cutS x (some ((("print" : Str).length + 1 : Nat) : Int)) none) with
          | false =>
            rw [hn] at ec
            exact ⟨false, by show V.bl (nameB _) = _; rw [hn], _, rfl, sm.trans s2, s2 _ _ hl, fun _ => h1a (by decide), fun _ => ec⟩
          | true =>
            rw [hn] at ec
            refine ⟨true, by show V.bl (nameB _) = _; rw [hn], _, rfl, _, rfl, _, rfl, ("print" : Str), rfl, lnS (n := 80) (by rw [hw]; decide), _, _, rfl, rfl, _, rfl, x, rfl, hz, by show 2 ≤ sizeLine; decide, fun q nq => ?_⟩
            refine k _ _ ((sm.trans s2).trans (same_new nq)) ?_
            have er : plainP x = some (.prt (askT "print" x)) := by
              unfold plainP
              rw [if_neg (by rw [h1a (by decide)]; decide), if_pos ec]
            rw [er, et ec]
            exact .tup (.inl (.inl upd_same)) (.cons (.str _) (.cons (.str _) .nil))
      | n + 2, hxx => cases hxx
    · rintro σ' H' ⟨y, rfl, sm, hl, h1a, h2a⟩
      have ha := h1a (by decide)
      have hp := h2a (by decide)
      have er : plainP x = if nameB (Txt.partition x (" = " : Str)).1 then
          (if nameB (Txt.partition x (" = " : Str)).2.2 then some (.copy (Txt.partition x (" = " : Str)).1 (Txt.partition x (" = " : Str)).2.2)
          else if intB (Txt.partition x (" = " : Str)).2.2 then some (.give (Txt.partition x (" = " : Str)).1 (intV (Txt.partition x (" = " : Str)).2.2))
          else noteP (Txt.partition x (" = " : Str)).1 (Txt.partition x (" = " : Str)).2.2)
          else none := by
        unfold plainP
        rw [if_neg (by rw [ha]; decide), if_neg (by rw [hp]; decide)]
      refine ⟨_, rfl, _, _, rfl, rfl, _, rfl, ?_⟩
      have h3 : (" = " : Str).length = 3 := by decide +kernel
      have hb1 : ("(" : Str).length = 1 := by decide +kernel
      cases ho : Builtin.Str.occurrences x (" = " : Str) 0 x.length 1 with
      | nil =>
        refine ifB (by rfl) (k .non H' sm ?_)
        have e1 : nameB Str.empty = false := by decide +kernel
        have e2 : intB Str.empty = false := by decide +kernel
        have e3 : nameB (Txt.partition Str.empty ("(" : Str)).1 = false := by decide +kernel
        have e4 : noteP x Str.empty = none := by
          unfold noteP
          rw [e3]
          rfl
        rw [er, part_no ho]
        dsimp only
        rw [e1, e2, e4]
        cases nameB x <;> rfl
      | cons i r =>
      have hpt := part_at ho
      rw [h3] at hpt
      rw [hpt] at er
      dsimp only at er
      have hnl : (cutS x none (some (i : Int))).length ≤ x.length := cutS_length _ _ _
      have hrl : (cutS x (some ((i + 3 : Nat) : Int)) none).length ≤ x.length := cutS_length _ _ _
      refine ifBF (by rfl) ⟨_, rfl, ⟨_, rfl⟩, x, _, i, r, rfl, rfl, ho, ?_⟩
      refine ⟨fun σ2 H2 => σ2 = [some (.str x), y, some (.int (i : Nat)), some (.str (cutS x none (some (i : Int)))), some (.str (cutS x (some ((i + 3 : Nat) : Int)) none)), none, none, none, none] ∧ Same H H2, ?_, ?_⟩
      · exact ⟨_, rfl, _, rfl, _, rfl, x, rfl, hz, _, rfl, _, rfl, _, _, rfl, rfl, _, rfl, x, rfl, hz, _, _, rfl, rfl, sm⟩
      rintro σ2 H2 ⟨rfl, s2⟩
      generalize cutS x none (some (i : Int)) = nm at *
      generalize cutS x (some ((i + 3 : Nat) : Int)) none = rest at *
      have hzr : rest.length ≤ sizeLine := Nat.le_trans hrl hz
      refine ⟨_, rfl, .str nm, .str nm, rfl, .str nm (by omega), fun H3 s3 => ?_⟩
      have s23 := s2.trans s3
      cases hn : nameB nm with
      | false =>
        refine ⟨false, by show V.bl (nameB nm) = _; rw [hn], k .non _ s23 ?_⟩
        rw [er, hn]
        rfl
      | true =>
      rw [hn, if_pos rfl] at er
      refine ⟨true, by show V.bl (nameB nm) = _; rw [hn], _, rfl, .str rest, .str rest, rfl, .str rest (by omega), fun H4 s4 => ?_⟩
      have s24 := s23.trans s4
      cases hn2 : nameB rest with
      | true =>
        rw [hn2, if_pos rfl] at er
        refine ⟨true, by show V.bl (nameB rest) = _; rw [hn2], _, rfl, _, rfl, by show 3 ≤ sizeLine; decide, fun q nq => k _ _ (s24.trans (same_new nq)) ?_⟩
        rw [er]
        exact .tup (.inl (.inl upd_same)) (.cons (.str _) (.cons (.str _) (.cons (.str _) .nil)))
      | false =>
      rw [hn2, if_neg (by decide)] at er
      refine ⟨false, by show V.bl (nameB rest) = _; rw [hn2], _, rfl, rest, rfl, by omega, fun H5 s5 => ⟨rfl, _, rfl, ?_⟩⟩
      have s25 := s24.trans s5
      cases hi : intB rest with
      | true =>
        rw [hi, if_pos rfl] at er
        have env : numV rest = .int (intV rest) := by rw [numV, hi, if_pos rfl]
        refine ifB (by rw [env]; rfl) ⟨_, rfl, _, rfl, rest, rfl, by omega, fun H6 s6 => ⟨by show 3 ≤ sizeLine; decide, fun q nq => k _ _ ((s25.trans s6).trans (same_new nq)) ?_⟩⟩
        rw [er, env]
        exact .tup (.inl (.inl upd_same)) (.cons (.str _) (.cons (.str _) (.cons (.int _) .nil)))
      | false =>
      rw [hi, if_neg (by decide)] at er
      have env : numV rest = .non := by rw [numV, hi, if_neg (by decide)]
      refine ifBF (by rw [env]; rfl) ⟨_, rfl, _, _, rfl, rfl, _, rfl, ?_⟩
      cases ho2 : Builtin.Str.occurrences rest ("(" : Str) 0 rest.length 1 with
      | nil =>
        refine ifB (by rfl) (k .non H5 s25 ?_)
        have e3 : Txt.endswith Str.empty (")" : Str) = false := by decide +kernel
        have e4 : noteP nm rest = none := by
          unfold noteP
          rw [part_no ho2]
          dsimp only
          rw [e3, Bool.and_false]
          rfl
        rw [er, e4]
        rfl
      | cons j r2 =>
      have hpt2 := part_at ho2
      rw [hb1] at hpt2
      have hlast := last_of ho2
      have hin := brk_of (t := rest) (j := j)
      refine ifBF (by rfl) ⟨_, rfl, 1, rfl, -1, rfl, rest, rfl, hzr, rfl, _, rfl, ?_⟩
      rw [dec_str, hlast]
      have enp : noteP nm rest = if nameB (cutS rest none (some (j : Int))) && Txt.endswith (cutS rest (some ((j + 1 : Nat) : Int)) none) (")" : Str) then
          (if ((partsT (cutS rest (some ((j + 1 : Nat) : Int)) none)).map nameB).all id then some (.note nm (cutS rest none (some (j : Int))) (partsT (cutS rest (some ((j + 1 : Nat) : Int)) none))) else none)
          else none := by
        unfold noteP
        rw [hpt2]
      rw [enp] at er
      have hol : (cutS rest none (some (j : Int))).length ≤ rest.length := cutS_length _ _ _
      have hRl : (cutS rest (some ((j + 1 : Nat) : Int)) none).length ≤ rest.length := cutS_length _ _ _
      cases hew : Txt.endswith (cutS rest (some ((j + 1 : Nat) : Int)) none) (")" : Str) with
      | false =>
        rw [hew, Bool.and_false, if_neg (by decide)] at er
        refine ifB (by rfl) (k .non H5 s25 ?_)
        rw [er]
        rfl
      | true =>
      rw [hew, Bool.and_true] at er
      have hnil := inner_nil hew
      refine ifBF (by rfl) ?_
      refine ⟨fun σ6 H6 => σ6 = [some (.str x), y, some (.int (i : Nat)), some (.str nm), some (.str rest), some (.str (cutS rest none (some (j : Int)))), some (.str (cutS rest (some ((j + 1 : Nat) : Int)) (some (-1)))), none, none] ∧ Same H H6, ?_, ?_⟩
      · refine ⟨_, rfl, _, rfl, ⟨_, rfl⟩, rest, _, j, r2, rfl, rfl, ho2, _, rfl, rest, rfl, hzr, ?_⟩
        exact ⟨_, rfl, _, rfl, ⟨_, rfl⟩, rest, _, j, r2, rfl, rfl, ho2, _, _, rfl, rfl, _, rfl, 1, rfl, -1, rfl, rest, rfl, hzr, _, _, rfl, rfl, s25⟩
      rintro σ6 H6 ⟨rfl, s6⟩
      rw [hin]
      have hil : (cutS (cutS rest (some ((j + 1 : Nat) : Int)) none) none (some (-1))).length ≤ (cutS rest (some ((j + 1 : Nat) : Int)) none).length := cutS_length _ _ _
      have hpm := parts_many (cutS rest (some ((j + 1 : Nat) : Int)) none)
      refine ⟨fun σ7 H7 => ∃ q, σ7 = [some (.str x), y, some (.int (i : Nat)), some (.str nm), some (.str rest), some (.str (cutS rest none (some (j : Int)))), some (.str (cutS (cutS rest (some ((j + 1 : Nat) : Int)) none) none (some (-1)))), some (.ref q), none] ∧ Same H H7 ∧ H7 q = some (.lst ((partsT (cutS rest (some ((j + 1 : Nat) : Int)) none)).map V.str)), ?_, ?_⟩
      · refine ⟨_, rfl, rfl, _, rfl, ?_⟩
        rw [dec_str]
        by_cases hz0 : (cutS rest (some ((j + 1 : Nat) : Int)) none) = (")" : Str)
        · refine ifBF (by rw [hnil.mpr hz0]; rfl) ⟨by decide, fun q nq => ⟨q, rfl, s6.trans (same_new nq), ?_⟩⟩
          have e : partsT (cutS rest (some ((j + 1 : Nat) : Int)) none) = [] := if_pos hz0
          rw [e]
          exact upd_same
        · refine ifB (by simpa using fun e => hz0 (hnil.mp e)) ?_
          refine ⟨_, rfl, ⟨_, rfl⟩, _, _, rfl, rfl, by decide +kernel, lnB (n := 95000) (by omega), fun q nq => ⟨q, rfl, s6.trans (same_new nq), ?_⟩⟩
          have e : partsT (cutS rest (some ((j + 1 : Nat) : Int)) none) = Txt.split (cutS (cutS rest (some ((j + 1 : Nat) : Int)) none) none (some (-1))) (", " : Str) := if_neg hz0
          rw [e]
          exact upd_same
      rintro σ7 H7 ⟨q, rfl, s7, hq⟩
      refine ⟨_, rfl, .str (cutS rest none (some (j : Int))), .str (cutS rest none (some (j : Int))), rfl, .str _ (by omega), fun H8 s8 => ?_⟩
      have s78 := s7.trans s8
      cases hno : nameB (cutS rest none (some (j : Int))) with
      | false =>
        rw [hno, if_neg (by decide)] at er
        refine ⟨false, by show V.bl (nameB _) = _; rw [hno], k .non _ s78 ?_⟩
        rw [er]
        rfl
      | true =>
      rw [hno, if_pos rfl] at er
      refine ⟨true, by show V.bl (nameB _) = _; rw [hno], ?_⟩
      have hq8 := s8 _ _ hq
      refine lc_into ?_
      refine ⟨_, rfl, _, rfl, ⟨_, SqL.of hq8⟩, ?_⟩
      refine lc_overA (p := none) (as := partsT (cutS rest (some ((j + 1 : Nat) : Int)) none)) (Rel := fun _ x y => y = .bl (nameB x)) it_list (by rw [List.length_map]) (fun _ _ _ _ _ h => h) (fun _ h => nomatch h) (by rw [List.length_map]; exact Nat.lt_of_le_of_lt (show _ ≤ 95000 by omega) (by decide)) (fun H' kq _ => SqL.of (kq.same _ _ hq8)) ?_ ?_
      · intro i z x hz hx H' _ _ R kk
        rw [List.getElem?_map, hx] at hz
        cases hz
        have hlx := parts_len (List.mem_of_getElem? hx)
        exact ⟨rfl, _, rfl, .str x, .str x, rfl, .str x (by omega), fun H4 s4 => kk _ _ (Same.kq s4) s4.pt rfl⟩
      · intro D ys H9 kq _ _ hD all
        have e := All2.map all
        subst e
        have s9 := s78.trans kq.same
        refine ⟨D, (partsT (cutS rest (some ((j + 1 : Nat) : Int)) none)).map nameB, rfl, SqL.of (by rw [hD, List.map_map]; rfl), _, rfl, ?_⟩
        cases hall : ((partsT (cutS rest (some ((j + 1 : Nat) : Int)) none)).map nameB).all id with
        | false =>
          rw [hall, if_neg (by decide)] at er
          refine k .non H9 s9 ?_
          rw [er]
          rfl
        | true =>
          rw [hall, if_pos rfl] at er
          refine ⟨_, rfl, _, rfl, _, rfl, q, _, rfl, .inl ⟨SqL.of (kq.same _ _ hq8), fun q2 nq2 => ⟨by show 4 ≤ sizeLine; decide, fun q5 nq5 => ?_⟩⟩⟩
          refine k _ _ ((s9.trans (same_new nq2)).trans (same_new nq5)) ?_
          rw [er]
          exact .tup (.inl (.inl upd_same)) (.cons (.str _) (.cons (.str _) (.cons (.str _) (.cons (.tup ((Pt.new nq5).sq (.inl (.inl upd_same))) Tvs.ofStrs) .nil))))
end
end K05
set_option Elab.async false
set_option linter.all false
set_option maxRecDepth 100000
set_option maxHeartbeats 4000000
/-! The law's frames; _law_closed. -/
namespace PM
open PySem PySem.Spec PyProof.Rows L2 ZX ZR ZT TL
def kwS : Knd → Str
  | .base => "whole"
  | .ei1 => "first"
  | .ei2 _ => "second"
  | .ag => "again"
def kfB : Knd → List Rw
  | .ei2 a => a
  | _ => []
/-- an opened block, as the law keeps it -/
def frD (o : Op) : PyData := .tuple [.str (kwS o.kd), .tuple (dB o.tk), .tuple (dB (kfB o.kd))]
/-- the law's list of them, the innermost one last -/
def FrAt (K : PySem.W.Frag) (H : Hp) (l : Addr) (p : Rd) : Prop := ∃ us : List V, H l = some (.lst us) ∧ Tvs K H us ((p.1 :: p.2).reverse.map frD)
section
variable {K : PySem.W.Frag} {H H' : Hp} {l : Addr} {p : Rd}
theorem FrAt.same (s : Same H H') (h : FrAt K H l p) : FrAt K H' l p := by
  obtain ⟨us, h1, h2⟩ := h
  exact ⟨us, s _ _ h1, h2.pt s.pt⟩
theorem Tvs.unapp : ∀ {as bs : List PyData} {vs : List V}, Tvs K H vs (as ++ bs) → ∃ xs ys, vs = xs ++ ys ∧ Tvs K H xs as ∧ Tvs K H ys bs
  | [], bs, vs, h => ⟨[], vs, rfl, .nil, h⟩
  | a :: as, bs, vs, h => by
    cases h with | cons h1 t =>
    obtain ⟨xs, ys, rfl, h2, h3⟩ := Tvs.unapp t
    exact ⟨_ :: xs, ys, rfl, .cons h1 h2, h3⟩
theorem FrAt.top {t : Op} {S : List Op} (h : FrAt K H l (t, S)) : ∃ xs v, H l = some (.lst (xs ++ [v])) ∧ Tvs K H xs (S.reverse.map frD) ∧ Tv K H v (frD t) := by
  obtain ⟨us, h1, h2⟩ := h
  have h2 : Tvs K H us ((t :: S).reverse.map frD) := h2
  rw [List.reverse_cons, List.map_append] at h2
  obtain ⟨xs, ys, rfl, h3, h4⟩ := Tvs.unapp h2
  cases h4 with | cons h5 h6 =>
  cases h6
  exact ⟨xs, _, h1, h3, h5⟩
theorem FrAt.two {t u : Op} {S : List Op} (h : FrAt K H l (t, u :: S)) : ∃ xs w v, H l = some (.lst (xs ++ [w, v])) ∧ Tvs K H xs (S.reverse.map frD) ∧ Tv K H w (frD u) ∧ Tv K H v (frD t) := by
  obtain ⟨us, v, h1, h2, h3⟩ := h.top
  rw [List.reverse_cons, List.map_append] at h2
  obtain ⟨xs, ys, rfl, h4, h5⟩ := Tvs.unapp h2
  cases h5 with | cons h6 h7 =>
  cases h7
  exact ⟨xs, _, v, by rw [h1, List.append_assoc]; rfl, h4, h6, h3⟩
theorem FrAt.mk {t : Op} {S : List Op} {xs : List V} {v : V} (h1 : H l = some (.lst (xs ++ [v]))) (h2 : Tvs K H xs (S.reverse.map frD)) (h3 : Tv K H v (frD t)) : FrAt K H l (t, S) := by
  refine ⟨_, h1, ?_⟩
  show Tvs K H _ ((t :: S).reverse.map frD)
  rw [List.reverse_cons, List.map_append]
  exact Tvs.app h2 (.cons h3 .nil)
theorem Tv.frI {v : V} {o : Op} (h : Tv K H v (frD o)) : ∃ a b c, v = .ref a ∧ SqT K H a [.str (kwS o.kd), b, c] ∧ Tv K H b (.tuple (dB o.tk)) ∧ Tv K H c (.tuple (dB (kfB o.kd))) := by
  obtain ⟨a, xs, rfl, hS, t⟩ := Tv.tupI (show Tv K H v (.tuple [.str (kwS o.kd), .tuple (dB o.tk), .tuple (dB (kfB o.kd))]) from h)
  cases t with | cons h1 t => cases t with | cons h2 t => cases t with | cons h3 t =>
  cases t
  cases h1
  exact ⟨a, _, _, rfl, hS, h2, h3⟩
end
theorem atI_pre {α : Type} (xs : List α) (w v : α) : atI (xs ++ [w, v]) (-2) = some w := by
  have hl : (xs ++ [w, v]).length = xs.length + 2 := by simp
  have e : ixN (xs ++ [w, v]).length (-2) = some xs.length := by
    unfold ixN
    rw [hl, if_neg (by decide), if_pos (by omega)]
    congr 1
    omega
  unfold atI
  rw [e]
  simp
theorem cutV_but2 (xs : List V) (w v : V) : cutV (xs ++ [w, v]) none (some (-2)) = xs := by
  unfold cutV
  have hl : (xs ++ [w, v]).length = xs.length + 2 := by simp
  have e0 : HT.sIx (xs ++ [w, v]).length (xs ++ [w, v]).length (some (-2)) = xs.length := by
    rw [hl]
    show ((-2 : Int) + ((xs.length + 2 : Nat) : Int)).toNat = _
    omega
  rw [HT.sIx_none, e0, List.drop_zero, Nat.sub_zero, List.take_left]
theorem cutV_but1 (xs : List V) (v : V) : cutV (xs ++ [v]) none (some (-1)) = xs := by
  unfold cutV
  have hl : (xs ++ [v]).length = xs.length + 1 := by simp
  have e0 : HT.sIx (xs ++ [v]).length (xs ++ [v]).length (some (-1)) = xs.length := by
    rw [hl]
    show ((-1 : Int) + ((xs.length + 1 : Nat) : Int)).toNat = _
    omega
  rw [HT.sIx_none, e0, List.drop_zero, Nat.sub_zero, List.take_left]
end PM
namespace K05
open PySem PySem.Spec PyProof.Rows L2 ZX PM ZR ZT TL
abbrev sLClosed : Stmt := top 59
def spLClosed (K : PySem.W.Frag) : Sp := fun vs H Q _ => ∃ (l : Addr) (t u : Op) (S : List Op), vs = [.ref l] ∧ FrAt K H l (t, u :: S) ∧ t.kd ≠ .base ∧ t.kd ≠ .ei1 ∧ szP (t, u :: S) ≤ 90000 ∧ ∀ l' H', Same H H' → FrAt K H' l' (⟨u.kd, u.tk ++ [rowK t.kd t.tk]⟩, S) → Q (.ref l') H'
section
variable {P : Program} {w : World} {K : PySem.W.Frag} {mg : Str → Option Value} {base : Heap}
theorem scLClosed : FnScope ["_law_frames", "_law_kind", "_law_rows_here", "_law_first", "_law_row", "_law_ahead"] ["_law_frames"] (defScope sLClosed) := ⟨rfl, rfl, rfl, by decide +kernel, rfl, by decide +kernel, by decide +kernel⟩
theorem ok_lclosed {f : Addr} {fd : FuncData} (F : FnP K "_law_closed" sLClosed f fd) (T : Bi mg) : FnOk P w K mg base CX0 1 f fd ["_law_frames"] (spLClosed K) := by
  refine F.ok scLClosed (fun vs H Q E h => ?_) (fun cdv A outer s H vs Q E hr h => ?_)
  · obtain ⟨l, t, u, S, rfl, _⟩ := h
    rfl
  · obtain ⟨l, t, u, S, rfl, hF, n0, n1, hz, k⟩ := h
    refine ⟨_, PSs.nox (pss_cut (ps_asg (pe_ix ix_list (pv 0) (pe_un un_neg pe_int) (fun _ _ => rfl)) (pg_tup rfl (pgs_cons (pg_name (i := 1) scLClosed.nd rfl (Or.inl rfl)) (pgs_cons (pg_name (i := 2) scLClosed.nd rfl (Or.inl rfl)) (pgs_cons (pg_name (i := 3) scLClosed.nd rfl (Or.inl rfl)) pgs_nil)))))
    (pss_cut (ps_set (i := 4) scLClosed.nd rfl (Or.inl rfl) (pe_ifExp (pt_cmpR op_eq (pv 1) pe_str (nomark _)) (pe_tup (pa_cons pe_str (pa_cons (pv 2) pa_nil))) (pe_tup (pa_cons pe_str (pa_cons (pv 3) (pa_cons (pv 2) pa_nil))))))
    (pss_cut (ps_set (i := 5) scLClosed.nd rfl (Or.inl rfl) (pe_ix ix_list (pv 0) (pe_un un_neg pe_int) (fun _ _ => rfl)))
    (pss_one (ps_ret (pe_op op_cat (pe_slice sl_list (pv 0) po_none (po_some (pe_un un_neg pe_int))) (pe_lst (pa_cons (pe_tup (pa_cons (pe_ix ix_tup (pv 5) pe_int (fun _ _ => rfl)) (pa_cons (pe_op op_catZ (pe_ix ix_tup (pv 5) pe_int (fun _ _ => rfl)) (pe_tup (pa_cons (pv 4) pa_nil))) (pa_cons (pe_ix ix_tup (pv 5) pe_int (fun _ _ => rfl)) pa_nil)))) pa_nil)))))))), ?_⟩
    obtain ⟨xs, w1, v1, hl, hxs, hw, hv⟩ := hF.two
    obtain ⟨av, rv, fv, rfl, hSv, hrv, hfv⟩ := Tv.frI hv
    obtain ⟨aw, rw_, fw, rfl, hSw, hrw, hfw⟩ := Tv.frI hw
    have hlen := hxs.len
    rw [List.length_map, List.length_reverse] at hlen
    have hzS := szP_len S u
    rw [szP_two, szP_cons] at hz
    rw [szP_cons] at hzS
    refine ⟨fun σ2 H2 => σ2 = [some (.ref l), some (.str (kwS t.kd)), some rv, some fv, none, none] ∧ H2 = H, ?_, ?_⟩
    · refine ⟨_, rfl, 1, rfl, l, _, -1, _, rfl, rfl, SqL.of hl, by rw [show xs ++ [V.ref aw, V.ref av] = (xs ++ [V.ref aw]) ++ [V.ref av] by simp]; exact atI_last _ _, av, _, rfl, hSv, rfl, _, _, rfl, _, _, rfl, _, _, rfl, rfl, rfl, rfl⟩
    rintro σ2 H2 ⟨rfl, hH2⟩
    rw [hH2]
    refine ⟨fun σ3 H3 => ∃ rr, σ3 = [some (.ref l), some (.str (kwS t.kd)), some rv, some fv, some rr, none] ∧ Same H H3 ∧ RV K H3 rr (rowK t.kd t.tk), ?_, ?_⟩
    · refine ⟨_, rfl, rfl, _, rfl, ?_⟩
      rw [dec_str]
      cases hk : t.kd with
      | base => exact absurd hk n0
      | ei1 => exact absurd hk n1
      | ag =>
        refine ifB (by decide +kernel) ⟨_, rfl, by show 2 ≤ sizeLine; decide, fun q nq => ⟨_, rfl, same_new nq, ?_⟩⟩
        exact .tup (.inl (.inl upd_same)) (.cons (.str _) (.cons (Tv.pt (Pt.new nq) hrv) .nil))
      | ei2 a =>
        rw [hk] at hfv
        refine ifBF (show (("second" : Str) == Str.ofString "again") = false by decide +kernel) ⟨_, rfl, _, rfl, by show 3 ≤ sizeLine; decide, fun q nq => ⟨_, rfl, same_new nq, ?_⟩⟩
        exact .tup (.inl (.inl upd_same)) (.cons (.str _) (.cons (Tv.pt (Pt.new nq) hfv) (.cons (Tv.pt (Pt.new nq) hrv) .nil)))
    rintro σ3 H3 ⟨rr, rfl, s3, hrr⟩
    refine ⟨fun σ4 H4 => σ4 = [some (.ref l), some (.str (kwS t.kd)), some rv, some fv, some rr, some (.ref aw)] ∧ H4 = H3, ?_, ?_⟩
    · exact ⟨_, rfl, 2, rfl, l, _, -2, _, rfl, rfl, SqL.of (s3 _ _ hl), atI_pre _ _ _, rfl, rfl⟩
    rintro σ4 H4 ⟨rfl, hH4⟩
    rw [hH4]
    have hl3 := s3 _ _ hl
    refine ⟨_, rfl, 2, rfl, -2, rfl, l, _, rfl, SqL.of hl3, fun q1 nq1 => ?_⟩
    rw [cutV_but2]
    have s4 := same_new (o := .lst xs) nq1
    have hSw4 := (s3.trans s4).pt.sq hSw
    obtain ⟨ar, rs, rfl, hSr, htr⟩ := Tv.tupI hrw
    have hrl := htr.len
    rw [dB_eq, List.length_map] at hrl
    refine ⟨_, rfl, _, _, _, _, rfl, rfl, hSw4, rfl, _, rfl, _, _, _, _, rfl, rfl, hSw4, rfl, _, rfl, by show 1 ≤ sizeLine; decide, fun q2 nq2 => ?_⟩
    have s5 := same_new (o := .tup [rr]) nq2
    have s35 := s4.trans s5
    refine ⟨ar, q2, rs, [rr], rfl, rfl, ((s3.trans s35).pt.sq hSr), .inl (.inl upd_same), Nat.le_trans (show rs.length + 1 ≤ 100000 by omega) (by decide), fun q3 H6 s6 hq3 => ?_⟩
    have s36 := s35.trans s6
    refine ⟨_, rfl, _, _, _, _, rfl, rfl, (s3.trans s36).pt.sq hSw, rfl, by show 3 ≤ sizeLine; decide, fun q4 nq4 => ⟨by show 1 ≤ sizeLine; decide, fun q5 nq5 => ?_⟩⟩
    have s7 := same_new (o := .tup [.str (kwS u.kd), .ref q3, fw]) nq4
    have s8 := same_new (o := .lst [.ref q4]) nq5
    have s38 := (s36.trans s7).trans s8
    refine ⟨q1, q5, xs, _, rfl, rfl, (((s5.trans s6).trans s7).trans s8) _ _ upd_same, upd_same, Nat.le_trans (show xs.length + 1 ≤ 100000 by omega) (by decide), fun q6 nq6 => ?_⟩
    have s9 := same_new (o := .lst (xs ++ [.ref q4])) nq6
    have s39 := s38.trans s9
    have sH := s3.trans s39
    refine k q6 _ sH (FrAt.mk upd_same (hxs.pt sH.pt) ?_)
    refine .tup (.inl (.inl (s9 _ _ (s8 _ _ upd_same)))) (.cons (.str _) (.cons (.tup (((s7.trans s8).trans s9).pt.sq hq3) ?_) (.cons (Tv.pt sH.pt hfw) .nil)))
    show Tvs K _ _ (dB (u.tk ++ [rowK t.kd t.tk]))
    rw [dB_snoc]
    exact Tvs.app (htr.pt sH.pt) (.cons (Tv.pt s39.pt hrr) .nil)
end
end K05
set_option Elab.async false
set_option linter.all false
set_option maxRecDepth 100000
set_option maxHeartbeats 4000000
/-! _law_taken. -/
namespace PM
open PySem PySem.Spec PyProof.Rows L2 ZX ZR ZT TL
theorem close_none {n m : Nat} (h : n ≤ m) : ∀ {S : List Op} {t : Op}, closeF m t S = none → closeF n t S = none
  | [], t, e => by
    rw [closeF] at e
    cases e
  | u :: S, t, e => by
    rw [closeF] at e
    split at e
    · rename_i h1
      rw [closeF, if_pos (by omega)]
      split at e
      · rename_i h2
        rw [if_pos h2]
      · rename_i h2
        rw [if_neg h2]
        exact close_none h e
    · cases e
theorem plain_or : plainP ("or" : Str) = none := by
  have h : (plainP ("or" : Str)).isNone = true := by decide +kernel
  exact Option.isNone_iff_eq_none.mp h
/-- how the law goes on from a frame list that stands so deep -/
theorem take_first {x : Str} {p : Rd} {t : Op} {S : List Op} (h0 : oddT x = 0) (h1 : deepT x < p.2.length + 1) (hc : closeF (deepT x + 2) p.1 p.2 = some (t, S)) (hl : S.length = deepT x + 1) (hp : deepT x + 1 < p.2.length + 1) (h : isE1 t.kd = true) :
    takeF x p = if bareT x = ("or" : Str) then some (⟨.ei2 t.tk, []⟩, S) else none := by
  unfold takeF
  rw [if_neg (by intro z; rcases z with z | z <;> omega), hc]
  by_cases hb : bareT x = ("or" : Str)
  · rw [if_pos hb, if_pos hp, if_pos hb]
    show turnF (t, S) = _
    unfold turnF
    rw [if_pos h]
  · rw [if_neg hb, if_neg hb, close_two (n := deepT x + 1) (by omega) hc]
    cases S with
    | nil => cases hl
    | cons u S =>
      show (closeF (deepT x + 1) t (u :: S)).bind _ = none
      rw [closeF, if_pos (by rw [List.length_cons] at hl; omega), if_pos h]
      rfl
theorem take_end {x : Str} {p q : Rd} (h0 : oddT x = 0) (h1 : deepT x < p.2.length + 1) (hc : closeF (deepT x + 1) p.1 p.2 = some q) (ho : bareT x = ("or" : Str) → takeF x p = none) :
    takeF x p = if bareT x = ("or" : Str) then none else beginF (bareT x) q := by
  by_cases hb : bareT x = ("or" : Str)
  · rw [if_pos hb, ho hb]
  · rw [if_neg hb]
    unfold takeF
    rw [if_neg (by intro z; rcases z with z | z <;> omega), if_neg hb, hc]
    rfl
theorem take_off {x : Str} {p : Rd} (h : oddT x ≠ 0 ∨ p.2.length + 1 ≤ deepT x) : takeF x p = none := by
  unfold takeF
  rw [if_pos h]
theorem take_stuck {x : Str} {p : Rd} (hc : closeF (deepT x + 2) p.1 p.2 = none) : takeF x p = none := by
  unfold takeF
  split
  · rfl
  · split
    · split
      · rw [hc]
        rfl
      · rfl
    · rw [close_none (by omega) hc]
      rfl
theorem tw_len (p : Nat → Bool) : ∀ l : List Nat, (l.takeWhile p).length + (l.dropWhile p).length = l.length
  | [] => rfl
  | c :: l => by
    cases h : p c with
    | true =>
      rw [List.takeWhile_cons_of_pos h, List.dropWhile_cons_of_pos h, List.length_cons, List.length_cons, ← tw_len p l]
      omega
    | false =>
      rw [List.takeWhile_cons_of_neg (by rw [h]; decide), List.dropWhile_cons_of_neg (by rw [h]; decide)]
      exact Nat.zero_add _
theorem bare_cut (x : Str) : cutS x (some ((x.length - (bareT x).length : Nat) : Int)) none = bareT x := ext_tl (by
  rw [cut_from, bare_tl, len_tl, len_tl (bareT x), bare_tl]
  have h := tw_len (· == 32) (tl x)
  rw [show (tl x).length - ((tl x).dropWhile (· == 32)).length = ((tl x).takeWhile (· == 32)).length by omega, drop_tw])
theorem kw_first (k : Knd) : (kwS k == ("first" : Str)) = isE1 k := by
  cases k with
  | base => exact show (("whole" : Str) == ("first" : Str)) = false by decide +kernel
  | ei1 => exact show (("first" : Str) == ("first" : Str)) = true by decide +kernel
  | ei2 a => exact show (("second" : Str) == ("first" : Str)) = false by decide +kernel
  | ag => exact show (("again" : Str) == ("first" : Str)) = false by decide +kernel
end PM
namespace K05
open PySem PySem.Spec PyProof.Rows L2 ZX PM ZR ZT TL
abbrev sLTaken : Stmt := top 60
def spLTaken (K : PySem.W.Frag) : Sp := fun vs H Q _ => ∃ (l : Addr) (p : Rd) (x : Str), vs = [.ref l, .str x] ∧ FrAt K H l p ∧ BaseP p.1 p.2 ∧ szP p ≤ 80000 ∧ x.length ≤ 90000 ∧ (takeF x p = none → ∀ H', Same H H' → Q .non H') ∧ (∀ q, takeF x p = some q → ∀ l' H', Same H H' → FrAt K H' l' q → Q (.ref l') H')
section
variable {P : Program} {w : World} {K : PySem.W.Frag} {mg : Str → Option Value} {base : Heap}
theorem scLTaken : FnScope ["_law_frames", "_law_line", "_law_deep_here", "_law_body", "_law_row"] ["_law_frames", "_law_line"] (defScope sLTaken) := ⟨rfl, rfl, rfl, by decide +kernel, rfl, by decide +kernel, by decide +kernel⟩
theorem ok_ltaken {f : Addr} {fd : FuncData} (F : FnP K "_law_taken" sLTaken f fd) (T : Bi mg) (C_closed : Cal P w K mg base "_law_closed" 1 ["_law_frames"] (spLClosed K)) (C_plain : Cal P w K mg base "_law_plain" 2 ["_law_body"] (spLPlainT K)) : FnOk P w K mg base CX0 3 f fd ["_law_frames", "_law_line"] (spLTaken K) := by
  refine F.ok scLTaken (fun vs H Q E h => ?_) (fun cdv A outer s H vs Q E hr h => ?_)
  · obtain ⟨l, p, x, rfl, _⟩ := h
    rfl
  · obtain ⟨l, p, x, rfl, hF, hB, hz, hx, kn, ky⟩ := h
    have hr1 := hr.mono (show 1 ≤ 2 by decide)
    refine ⟨_, PSs.nox (pss_cut (ps_set (i := 2) scLTaken.nd rfl (Or.inl rfl) (pe_op op_sub (pe_callB call_len_str (by rfl) T.b_len (by decide +kernel) (pa_cons (pv 1) pa_nil)) (pe_callB call_len_str (by rfl) T.b_len (by decide +kernel) (pa_cons (pe_m1 PySem.F.slot_str_lstrip PySem.F.type_str_lstrip mt_lstripChars (pv 1) pe_str) pa_nil))))
    (pss_cut (ps_set (i := 3) scLTaken.nd rfl (Or.inl rfl) (pe_slice sl_str (pv 1) (po_some (pv 2)) po_none))
    (pss_cons (ps_if (PW.pt (pw_or (pt_cmpR op_eq (pe_op op_mod (pe_callTy call_int1 (by rfl) T.b_int (by decide +kernel) (pa_cons (pv 2) pa_nil)) pe_int) pe_int (nomark _)) (pw_or1 (pt_cmpR op_gt (pe_op op_fdiv (pv 2) pe_int) (pe_op op_sub (pe_callB call_len_seq (by rfl) T.b_len (by decide +kernel) (pa_cons (pv 0) pa_nil)) pe_int) (nomark _))))) (pss_one (ps_ret pe_non)) pss_nil)
    (pss_cut (ps_while PassesOwn.never (pt_cmpR op_gt (pe_op op_sub (pe_callB call_len_seq (by rfl) T.b_len (by decide +kernel) (pa_cons (pv 0) pa_nil)) pe_int) (pe_op op_add (pe_op op_fdiv (pv 2) pe_int) pe_int) (nomark _)) (pss_cons (ps_if (pt_cmpR op_eq (pe_ix ix_tup (pe_ix ix_list (pv 0) (pe_un un_neg pe_int) (fun _ _ => rfl)) pe_int (fun _ _ => rfl)) pe_str (nomark _)) (pss_one (ps_ret pe_non)) pss_nil)
      (pss_one (ps_set (i := 0) scLTaken.nd rfl (Or.inl rfl) (pcal C_closed hr1 rfl (pa_cons (pv 0) pa_nil))))))
    (pss_cut (ps_if (pt_cmpR op_gt (pe_op op_sub (pe_callB call_len_seq (by rfl) T.b_len (by decide +kernel) (pa_cons (pv 0) pa_nil)) pe_int) (pe_op op_fdiv (pv 2) pe_int) (nomark _)) (pss_cons (ps_if (pt_cmpR op_eq (pe_ix ix_tup (pe_ix ix_list (pv 0) (pe_un un_neg pe_int) (fun _ _ => rfl)) pe_int (fun _ _ => rfl)) pe_str (nomark _)) (pss_one (ps_ret (pe_ifExp (pt_cmpR op_eq (pv 3) pe_str (nomark _)) (pe_op op_cat (pe_slice sl_list (pv 0) po_none (po_some (pe_un un_neg pe_int))) (pe_lst (pa_cons (pe_tup (pa_cons pe_str (pa_cons (pe_tup pa_nil) (pa_cons (pe_ix ix_tup (pe_ix ix_list (pv 0) (pe_un un_neg pe_int) (fun _ _ => rfl)) pe_int (fun _ _ => rfl)) pa_nil)))) pa_nil))) pe_non))) pss_nil)
      (pss_one (ps_set (i := 0) scLTaken.nd rfl (Or.inl rfl) (pcal C_closed hr1 rfl (pa_cons (pv 0) pa_nil))))) pss_nil)
    (pss_cons (ps_if (pt_cmpR op_eq (pv 3) pe_str (nomark _)) (pss_one (ps_ret (pe_op op_cat (pv 0) (pe_lst (pa_cons (pe_tup (pa_cons pe_str (pa_cons (pe_tup pa_nil) (pa_cons (pe_tup pa_nil) pa_nil)))) pa_nil))))) pss_nil)
    (pss_cons (ps_if (pt_cmpR op_eq (pv 3) pe_str (nomark _)) (pss_one (ps_ret (pe_op op_cat (pv 0) (pe_lst (pa_cons (pe_tup (pa_cons pe_str (pa_cons (pe_tup pa_nil) (pa_cons (pe_tup pa_nil) pa_nil)))) pa_nil))))) pss_nil)
    (pss_cut (ps_set (i := 4) scLTaken.nd rfl (Or.inl rfl) (pcal C_plain hr rfl (pa_cons (pv 3) pa_nil)))
    (pss_cons (ps_if (PW.pt (pw_or (pt_cmpR op_isN (pv 4) pe_non (nomark _)) (pw_or1 (PW.pt (pw_and (pt_cmpR op_eq (pe_callB call_len_seq (by rfl) T.b_len (by decide +kernel) (pa_cons (pv 4) pa_nil)) pe_int (nomark _)) (pw_and1 (pt_cmpR op_gt (pe_callB call_len_seq (by rfl) T.b_len (by decide +kernel) (pa_cons (pe_ix ix_tup (pv 4) pe_int (fun _ _ => rfl)) pa_nil)) pe_int (nomark _)))))))) (pss_one (ps_ret pe_non)) pss_nil)
    (pss_one (ps_ret (pe_op op_cat (pe_slice sl_list (pv 0) po_none (po_some (pe_un un_neg pe_int))) (pe_lst (pa_cons (pe_tup (pa_cons (pe_ix ix_tup (pe_ix ix_list (pv 0) (pe_un un_neg pe_int) (fun _ _ => rfl)) pe_int (fun _ _ => rfl)) (pa_cons (pe_op op_catZ (pe_ix ix_tup (pe_ix ix_list (pv 0) (pe_un un_neg pe_int) (fun _ _ => rfl)) pe_int (fun _ _ => rfl)) (pe_tup (pa_cons (pv 4) pa_nil))) (pa_cons (pe_ix ix_tup (pe_ix ix_list (pv 0) (pe_un un_neg pe_int) (fun _ _ => rfl)) pe_int (fun _ _ => rfl)) pa_nil)))) pa_nil)))))))))))))), ?_⟩
    have bl := bare_len x
    have hz1 : x.length ≤ sizeLine := lnB hx
    have ie : (x.length : Int) - ((bareT x).length : Int) = ((x.length - (bareT x).length : Nat) : Int) := by omega
    refine ⟨fun σ2 H2 => σ2 = [some (.ref l), some (.str x), some (.int ((x.length - (bareT x).length : Nat) : Int)), none, none] ∧ H2 = H, ?_, ?_⟩
    · refine ⟨_, rfl, x, rfl, hz1, _, rfl, ⟨_, rfl⟩, x, _, rfl, rfl, hz1, bareT x, rfl, Nat.le_trans bl hz1, _, _, rfl, rfl, ?_⟩
      exact ⟨by show ([some (V.ref l), some (V.str x), some (V.int ((x.length : Int) - ((bareT x).length : Int))), none, none] : L2.St) = _; rw [ie], rfl⟩
    rintro σ2 H2 ⟨rfl, hH2⟩
    rw [hH2]
    refine ⟨fun σ3 H3 => σ3 = [some (.ref l), some (.str x), some (.int ((x.length - (bareT x).length : Nat) : Int)), some (.str (bareT x)), none] ∧ H3 = H, ?_, ?_⟩
    · refine ⟨_, rfl, _, rfl, _, rfl, x, rfl, hz1, ?_⟩
      rw [bare_cut]
      exact ⟨rfl, rfl⟩
    rintro σ3 H3 ⟨rfl, hH3⟩
    rw [hH3]
    have lens : ∀ {G : Hp} {m : Addr} {t : Op} {S : List Op}, FrAt K G m (t, S) → ∃ us : List V, G m = some (.lst us) ∧ us.length = S.length + 1 := fun {G m t S} h => by
      obtain ⟨us, h1, h2⟩ := h
      have := h2.len
      rw [List.length_map, List.length_reverse] at this
      exact ⟨us, h1, this⟩
    obtain ⟨us, hl, hul⟩ := lens (t := p.1) (S := p.2) hF
    have hod : oddT x < 2 := Nat.mod_lt _ (by decide)
    refine ⟨_, rfl, .inl ⟨_, rfl, _, _, rfl, rfl, show (0 : Int) < 2 by decide, rfl, _, rfl, ?_⟩⟩
    rw [dec_int]
    show if ((((oddT x : Nat) : Int)) == 1) = true then _ else _
    by_cases hodd : oddT x = 0
    rotate_left
    · exact ifB (by have : oddT x = 1 := by omega
                    rw [this]; rfl) (kn (take_off (.inl hodd)) H fun _ _ h => h)
    refine ifBF (by rw [hodd]; rfl) ⟨_, rfl, _, _, rfl, rfl, ⟨by decide, by decide⟩, _, rfl, l, us, rfl, .inl (SqL.of hl), _, _, rfl, rfl, _, _, rfl, rfl, _, rfl, ?_⟩
    rw [hul]
    by_cases hoff : p.2.length + 1 ≤ deepT x
    · exact ifD (by show (((p.2.length + 1 : Nat) : Int) - 1 < ((deepT x : Nat) : Int)); omega) (kn (take_off (.inr hoff)) H fun _ _ h => h)
    refine ifDF (by show ¬ (((p.2.length + 1 : Nat) : Int) - 1 < ((deepT x : Nat) : Int)); omega) ?_
    refine ⟨fun σ' H' => ∃ l' t S, σ' = [some (.ref l'), some (.str x), some (.int ((x.length - (bareT x).length : Nat) : Int)), some (.str (bareT x)), none] ∧ Same H H' ∧ FrAt K H' l' (t, S) ∧ BaseP t S ∧ szP (t, S) ≤ 80000 ∧ closeF (deepT x + 2) p.1 p.2 = some (t, S) ∧ (p.2.length ≤ deepT x + 1 → S.length = p.2.length) ∧ (deepT x + 1 ≤ p.2.length → S.length = deepT x + 1), ?_, ?_⟩
    · refine ⟨fun m σ' H' => ∃ l' t S, σ' = [some (.ref l'), some (.str x), some (.int ((x.length - (bareT x).length : Nat) : Int)), some (.str (bareT x)), none] ∧ Same H H' ∧ FrAt K H' l' (t, S) ∧ BaseP t S ∧ szP (t, S) ≤ 80000 ∧ closeF (deepT x + 2) t S = closeF (deepT x + 2) p.1 p.2 ∧ (p.2.length ≤ deepT x + 1 → S.length = p.2.length) ∧ (deepT x + 1 ≤ p.2.length → deepT x + 1 ≤ S.length) ∧ S.length = m, ⟨_, l, p.1, p.2, rfl, fun _ _ h => h, hF, hB, hz, rfl, fun _ => rfl, fun h => h, rfl⟩, ?_⟩
      rintro m σ' H' ⟨l', t, S, rfl, s', hF', hB', hz', hc', h1', h2', rfl⟩
      obtain ⟨us', hl', hul'⟩ := lens hF'
      refine ⟨_, rfl, l', us', rfl, .inl (SqL.of hl'), _, _, rfl, rfl, _, rfl, _, _, rfl, rfl, ⟨by decide, by decide⟩, _, _, rfl, rfl, _, _, rfl, rfl, _, rfl, ?_⟩
      rw [hul']
      by_cases hgt : deepT x + 1 < S.length
      rotate_left
      · refine ifDF (by show ¬ (((deepT x : Nat) : Int) + 1 < ((S.length + 1 : Nat) : Int) - 1); omega) ?_
        exact ⟨l', t, S, rfl, s', hF', hB', hz', by rw [← hc']; exact close_self (by omega), h1', fun h => by have := h2' h; omega⟩
      refine ifD (by show (((deepT x : Nat) : Int) + 1 < ((S.length + 1 : Nat) : Int) - 1); omega) ?_
      cases S with
      | nil => exact absurd hgt (by show ¬ (_ < 0); omega)
      | cons u S =>
      refine ⟨fun σ2 H2 => ∃ m', m' < (u :: S).length ∧ ∃ l' t S, σ2 = [some (.ref l'), some (.str x), some (.int ((x.length - (bareT x).length : Nat) : Int)), some (.str (bareT x)), none] ∧ Same H H2 ∧ FrAt K H2 l' (t, S) ∧ BaseP t S ∧ szP (t, S) ≤ 80000 ∧ closeF (deepT x + 2) t S = closeF (deepT x + 2) p.1 p.2 ∧ (p.2.length ≤ deepT x + 1 → S.length = p.2.length) ∧ (deepT x + 1 ≤ p.2.length → deepT x + 1 ≤ S.length) ∧ S.length = m', fun _ _ h => h, ?_⟩
      obtain ⟨xs, v, hlv, hxs, hv⟩ := hF'.top
      obtain ⟨av, rv, fv, rfl, hSv, hrv, hfv⟩ := Tv.frI hv
      refine ⟨_, rfl, 1, rfl, l', _, -1, _, rfl, rfl, SqL.of hlv, atI_last _ _, _, _, _, _, rfl, rfl, hSv, rfl, rfl, _, rfl, ?_⟩
      rw [dec_str, kw_first]
      have hcl : closeF (deepT x + 2) t (u :: S) = if isE1 t.kd then none else closeF (deepT x + 2) ⟨u.kd, u.tk ++ [rowK t.kd t.tk]⟩ S := by
        rw [closeF, if_pos (by rw [List.length_cons] at hgt; omega)]
      cases hE : isE1 t.kd with
      | true =>
        refine ifB rfl (kn (take_stuck ?_) H' s')
        rw [← hc', hcl, hE, if_pos rfl]
      | false =>
        rw [hE, if_neg (by decide)] at hcl
        refine ifBF rfl ⟨_, rfl, l', t, u, S, rfl, hF', hB'.1, (fun z => by rw [z] at hE; cases hE), by omega, fun l2 H2 s2 hF2 => ?_⟩
        have hb2 : BaseP ⟨u.kd, u.tk ++ [rowK t.kd t.tk]⟩ S := baseP_kd (t := u) (u := ⟨u.kd, u.tk ++ [rowK t.kd t.tk]⟩) rfl hB'.2
        have hz2 : szP (⟨u.kd, u.tk ++ [rowK t.kd t.tk]⟩, S) ≤ 80000 := by
          rw [szP_two, szP_cons] at hz'
          rw [szP_cons, List.length_append, List.length_singleton]
          omega
        rw [List.length_cons] at hgt h1' h2'
        exact ⟨S.length, Nat.lt_succ_self _, l2, ⟨u.kd, u.tk ++ [rowK t.kd t.tk]⟩, S, rfl, s'.trans s2, hF2, hb2, hz2, by rw [← hc', hcl], fun h => by have := h1' h; omega, fun h => by omega, rfl⟩
    rintro σ4 H4 ⟨l4, t, S, rfl, s4, hF4, hB4, hz4, hc4, h14, h24⟩
    obtain ⟨us4, hl4, hul4⟩ := lens hF4
    have hzS4 := szP_len S t
    refine ⟨fun σ' H' => ∃ l5 q5, σ' = [some (.ref l5), some (.str x), some (.int ((x.length - (bareT x).length : Nat) : Int)), some (.str (bareT x)), none] ∧ Same H H' ∧ FrAt K H' l5 q5 ∧ q5.2.length ≤ 80000 ∧ szP q5 ≤ 80000 ∧ takeF x p = (if bareT x = ("or" : Str) then none else beginF (bareT x) q5), ?_, ?_⟩
    · refine ⟨_, rfl, l4, us4, rfl, .inl (SqL.of hl4), _, _, rfl, rfl, _, rfl, _, _, rfl, rfl, ⟨by decide, by decide⟩, _, _, rfl, rfl, _, rfl, ?_⟩
      rw [hul4]
      by_cases hgt : deepT x < S.length
      rotate_left
      · refine ifDF (by show ¬ (((deepT x : Nat) : Int) < ((S.length + 1 : Nat) : Int) - 1); omega) ?_
        have hle : p.2.length ≤ deepT x + 1 := by
          by_cases h : p.2.length ≤ deepT x + 1
          · exact h
          · have := h24 (by omega)
            omega
        have heq := h14 hle
        have hc1 : closeF (deepT x + 1) p.1 p.2 = some (t, S) := by
          rw [close_two (n := deepT x + 1) (by omega) hc4]
          exact close_self (show S.length + 1 ≤ deepT x + 1 by omega)
        refine ⟨l4, (t, S), rfl, s4, hF4, by show S.length ≤ 80000; omega, hz4, take_end hodd (by omega) hc1 fun hb => ?_⟩
        unfold takeF
        rw [if_neg (by intro z; rcases z with z | z <;> omega), if_pos hb, if_neg (by omega)]
      refine ifD (by show (((deepT x : Nat) : Int) < ((S.length + 1 : Nat) : Int) - 1); omega) ?_
      have hSl : S.length = deepT x + 1 := by
        by_cases h : deepT x + 1 ≤ p.2.length
        · exact h24 h
        · have := h14 (by omega)
          omega
      have hpl : deepT x + 1 < p.2.length + 1 := by
        by_cases h : deepT x + 1 ≤ p.2.length
        · omega
        · have := h14 (by omega)
          omega
      obtain ⟨xs, v, hlv, hxs, hv⟩ := hF4.top
      obtain ⟨av, rv, fv, rfl, hSv, hrv, hfv⟩ := Tv.frI hv
      have hxl := hxs.len
      rw [List.length_map, List.length_reverse] at hxl
      refine ⟨_, rfl, 1, rfl, l4, _, -1, _, rfl, rfl, SqL.of hlv, atI_last _ _, _, _, _, _, rfl, rfl, hSv, rfl, rfl, _, rfl, ?_⟩
      rw [dec_str, kw_first]
      cases hE : isE1 t.kd with
      | true =>
        have tk := take_first hodd (by omega) hc4 hSl hpl hE
        refine ifB rfl ⟨_, rfl, rfl, _, rfl, ?_⟩
        rw [dec_str]
        by_cases hb : bareT x = ("or" : Str)
        · rw [if_pos hb] at tk
          refine ifB (by simpa using hb) ⟨_, rfl, 1, rfl, -1, rfl, l4, _, rfl, SqL.of hlv, fun q1 nq1 => ?_⟩
          rw [cutV_but1]
          have s1 := same_new (o := .lst xs) nq1
          refine ⟨by decide, fun q2 nq2 => ?_⟩
          have s2 := same_new (o := .tup []) nq2
          have s12 := s1.trans s2
          refine ⟨_, rfl, 1, rfl, l4, _, -1, _, rfl, rfl, SqL.of (s12 _ _ hlv), atI_last _ _, _, _, _, _, rfl, rfl, s12.pt.sq hSv, rfl, by show 3 ≤ sizeLine; decide, fun q3 nq3 => ⟨by show 1 ≤ sizeLine; decide, fun q4 nq4 => ?_⟩⟩
          have s3 := same_new (o := .tup [V.str "second", V.ref q2, rv]) nq3
          have s4b := same_new (o := .lst [V.ref q3]) nq4
          refine ⟨q1, q4, xs, _, rfl, rfl, ((s2.trans s3).trans s4b) _ _ upd_same, upd_same, Nat.le_trans (show xs.length + 1 ≤ 100000 by omega) (by decide), fun q6 nq6 => ?_⟩
          have s6 := same_new (o := .lst (xs ++ [V.ref q3])) nq6
          have sA := ((s12.trans s3).trans s4b).trans s6
          refine ky _ tk q6 _ (s4.trans sA) (FrAt.mk upd_same (hxs.pt sA.pt) ?_)
          exact .tup (.inl (.inl (s6 _ _ (s4b _ _ upd_same)))) (.cons (.str _) (.cons (.tup (.inl (.inl (((s3.trans s4b).trans s6) _ _ upd_same))) .nil) (.cons (Tv.pt sA.pt hrv) .nil)))
        · rw [if_neg hb] at tk
          exact ifBF (by simpa using hb) (kn tk H4 s4)
      | false =>
        cases S with
        | nil => cases hSl
        | cons u S =>
        rw [List.length_cons] at hSl
        refine ifBF rfl ⟨_, rfl, l4, t, u, S, rfl, hF4, hB4.1, (fun z => by rw [z] at hE; cases hE), by omega, fun l2 H5 s2 hF2 => ?_⟩
        have hc1 : closeF (deepT x + 1) p.1 p.2 = some (⟨u.kd, u.tk ++ [rowK t.kd t.tk]⟩, S) := by
          rw [close_two (n := deepT x + 1) (by omega) hc4]
          show closeF (deepT x + 1) t (u :: S) = _
          rw [closeF, if_pos (by omega), hE, if_neg (by decide)]
          exact close_self (by omega)
        have hz5 : szP (⟨u.kd, u.tk ++ [rowK t.kd t.tk]⟩, S) ≤ 80000 := by
          rw [szP_two, szP_cons] at hz4
          rw [szP_cons, List.length_append, List.length_singleton]
          omega
        refine ⟨l2, (⟨u.kd, u.tk ++ [rowK t.kd t.tk]⟩, S), rfl, s4.trans s2, hF2, by show S.length ≤ 80000; rw [List.length_cons] at hzS4; omega, hz5, take_end hodd (by omega) hc1 fun hb => ?_⟩
        unfold takeF
        rw [if_neg (by intro z; rcases z with z | z <;> omega), if_pos hb, if_pos hpl, hc4]
        show turnF (t, u :: S) = none
        unfold turnF
        rw [hE, if_neg (by decide)]
    rintro σ5 H5 ⟨l5, q5, rfl, s5, hF5, hq5l, hz5, tk5⟩
    refine ⟨_, rfl, rfl, _, rfl, ?_⟩
    rw [dec_str]
    by_cases hb : bareT x = ("either" : Str)
    · show if (bareT x == ("either" : Str)) = true then _ else _
      refine ifB (by simpa using hb) ⟨_, rfl, by decide, fun q1 nq1 => ⟨by decide, fun q2 nq2 => ⟨by show 3 ≤ sizeLine; decide, fun q3 nq3 => ⟨by show 1 ≤ sizeLine; decide, fun q4 nq4 => ?_⟩⟩⟩⟩
      have s1 := same_new (o := .tup []) nq1
      have s2 := same_new (o := .tup []) nq2
      have s3 := same_new (o := .tup [V.str "first", V.ref q1, V.ref q2]) nq3
      have s4 := same_new (o := .lst [V.ref q3]) nq4
      obtain ⟨us5, hl5, hus5⟩ := id hF5
      have hul5 := hus5.len
      rw [List.length_map, List.length_reverse] at hul5
      have hul5 : us5.length = q5.2.length + 1 := hul5
      refine ⟨l5, q4, us5, _, rfl, rfl, (((s1.trans s2).trans s3).trans s4) _ _ hl5, upd_same, Nat.le_trans (show us5.length + 1 ≤ 100000 by omega) (by decide), fun q6 nq6 => ?_⟩
      have s6 := same_new (o := .lst (us5 ++ [V.ref q3])) nq6
      have sA := (((s1.trans s2).trans s3).trans s4).trans s6
      refine ky (⟨.ei1, []⟩, q5.1 :: q5.2) (by rw [tk5, if_neg (by rw [hb]; decide +kernel)]; unfold beginF; rw [if_pos hb]) q6 _ (s5.trans sA) (FrAt.mk upd_same (hus5.pt sA.pt) ?_)
      exact .tup (.inl (.inl (s6 _ _ (s4 _ _ upd_same)))) (.cons (.str _) (.cons (.tup (.inl (.inl ((((s2.trans s3).trans s4).trans s6) _ _ upd_same))) .nil) (.cons (.tup (.inl (.inl (((s3.trans s4).trans s6) _ _ upd_same))) .nil) .nil)))
    refine ifBF (by simpa using hb) ⟨_, rfl, rfl, _, rfl, ?_⟩
    have hbe := hb
    rw [dec_str]
    by_cases hb : bareT x = ("again" : Str)
    · show if (bareT x == ("again" : Str)) = true then _ else _
      refine ifB (by simpa using hb) ⟨_, rfl, by decide, fun q1 nq1 => ⟨by decide, fun q2 nq2 => ⟨by show 3 ≤ sizeLine; decide, fun q3 nq3 => ⟨by show 1 ≤ sizeLine; decide, fun q4 nq4 => ?_⟩⟩⟩⟩
      have s1 := same_new (o := .tup []) nq1
      have s2 := same_new (o := .tup []) nq2
      have s3 := same_new (o := .tup [V.str "again", V.ref q1, V.ref q2]) nq3
      have s4 := same_new (o := .lst [V.ref q3]) nq4
      obtain ⟨us5, hl5, hus5⟩ := id hF5
      have hul5 := hus5.len
      rw [List.length_map, List.length_reverse] at hul5
      have hul5 : us5.length = q5.2.length + 1 := hul5
      refine ⟨l5, q4, us5, _, rfl, rfl, (((s1.trans s2).trans s3).trans s4) _ _ hl5, upd_same, Nat.le_trans (show us5.length + 1 ≤ 100000 by omega) (by decide), fun q6 nq6 => ?_⟩
      have s6 := same_new (o := .lst (us5 ++ [V.ref q3])) nq6
      have sA := (((s1.trans s2).trans s3).trans s4).trans s6
      refine ky (⟨.ag, []⟩, q5.1 :: q5.2) (by rw [tk5, if_neg (by rw [hb]; decide +kernel)]; unfold beginF; rw [if_neg (by rw [hb]; decide +kernel), if_pos hb]) q6 _ (s5.trans sA) (FrAt.mk upd_same (hus5.pt sA.pt) ?_)
      exact .tup (.inl (.inl (s6 _ _ (s4 _ _ upd_same)))) (.cons (.str _) (.cons (.tup (.inl (.inl ((((s2.trans s3).trans s4).trans s6) _ _ upd_same))) .nil) (.cons (.tup (.inl (.inl (((s3.trans s4).trans s6) _ _ upd_same))) .nil) .nil)))
    refine ifBF (by simpa using hb) ?_
    have tk6 : takeF x p = (plainP (bareT x)).bind fun r => (few r).map fun r => (⟨q5.1.kd, q5.1.tk ++ [r]⟩, q5.2) := by
      rw [tk5]
      by_cases ho : bareT x = ("or" : Str)
      · rw [if_pos ho, ho, plain_or]
        rfl
      · rw [if_neg ho]
        unfold beginF
        rw [if_neg hbe, if_neg hb, rowOf_few]
        cases plainP (bareT x) <;> rfl
    refine ⟨fun σ' H' => ∃ v, σ' = [some (.ref l5), some (.str x), some (.int ((x.length - (bareT x).length : Nat) : Int)), some (.str (bareT x)), some v] ∧ Same H5 H' ∧ OptR K H' v (plainP (bareT x)), ?_, ?_⟩
    · exact ⟨_, rfl, bareT x, rfl, by omega, fun v H6 s6 ho => ⟨v, rfl, s6, ho⟩⟩
    rintro σ6 H6 ⟨v, rfl, s6, hv⟩
    refine ⟨_, rfl, rfl, _, rfl, ?_⟩
    cases hpl : plainP (bareT x) with
    | none =>
      rw [hpl] at hv tk6
      have hv : v = .non := hv
      subst hv
      exact ifB (by rfl) (kn tk6 H6 (s5.trans s6))
    | some r =>
    rw [hpl] at hv tk6
    have hv : RV K H6 v r := hv
    obtain ⟨ra, tl_, rfl, hSr, htr⟩ := hv.rowI
    have tk6 : takeF x p = (few r).map fun r => (⟨q5.1.kd, q5.1.tk ++ [r]⟩, q5.2) := tk6
    refine ifBF (by rfl) ?_
    obtain ⟨t5, S5⟩ := q5
    have hq5l : S5.length ≤ 80000 := hq5l
    rw [szP_cons] at hz5
    have hlt := htr.len
    by_cases hnote : ∃ y o ps, r = .note y o ps
    · obtain ⟨y, o, ps, rfl⟩ := hnote
      obtain ⟨v1, v2, v3, rfl, t1, t2, t3⟩ := htr.three
      obtain ⟨a3, xs3, rfl, hS3, ht3⟩ := t3.tupI
      have hl3 := ht3.len
      rw [List.length_map] at hl3
      refine ⟨_, rfl, ra, _, rfl, .inr hSr, rfl, _, rfl, ifB (by rfl) ⟨_, rfl, _, _, _, _, rfl, rfl, hSr, rfl, a3, xs3, rfl, .inr hS3, _, _, rfl, rfl, _, rfl, ?_⟩⟩
      by_cases h3 : ps.length ≤ 3
      · have hfew : few (.note y o ps) = some (.note y o ps) := by
          unfold few manyR
          rw [if_neg (by simpa using h3)]
        refine ifDF (by rw [hl3]; omega) ?_
        generalize (Rw.note y o ps) = r at *
        obtain ⟨xs, v5, hlv, hxs, hv5⟩ := (hF5.same s6).top
        obtain ⟨av, rv, fv, rfl, hSv, hrv, hfv⟩ := Tv.frI hv5
        obtain ⟨ar, rs, rfl, hSr5, htr5⟩ := Tv.tupI hrv
        have hxl := hxs.len
        rw [List.length_map, List.length_reverse] at hxl
        have hrl := htr5.len
        rw [dB_eq, List.length_map] at hrl
        refine ⟨_, rfl, 1, rfl, -1, rfl, l5, _, rfl, SqL.of hlv, fun q1 nq1 => ?_⟩
        rw [cutV_but1]
        have s1 := same_new (o := .lst xs) nq1
        refine ⟨_, rfl, 1, rfl, l5, _, -1, _, rfl, rfl, SqL.of (s1 _ _ hlv), atI_last _ _, _, _, _, _, rfl, rfl, s1.pt.sq hSv, rfl, _, rfl, 1, rfl, l5, _, -1, _, rfl, rfl, SqL.of (s1 _ _ hlv), atI_last _ _, _, _, _, _, rfl, rfl, s1.pt.sq hSv, rfl, _, rfl, by show 1 ≤ sizeLine; decide, fun q2 nq2 => ?_⟩
        have s2 := same_new (o := .tup [V.ref ra]) nq2
        have s12 := s1.trans s2
        refine ⟨ar, q2, rs, [.ref ra], rfl, rfl, s12.pt.sq hSr5, .inl (.inl upd_same), Nat.le_trans (show rs.length + 1 ≤ 100000 by omega) (by decide), fun q3 H7 s7 hq3 => ?_⟩
        have s17 := s12.trans s7
        refine ⟨_, rfl, 1, rfl, l5, _, -1, _, rfl, rfl, SqL.of (s17 _ _ hlv), atI_last _ _, _, _, _, _, rfl, rfl, s17.pt.sq hSv, rfl, by show 3 ≤ sizeLine; decide, fun q4 nq4 => ⟨by show 1 ≤ sizeLine; decide, fun q6 nq6 => ?_⟩⟩
        have s8 := same_new (o := .tup [V.str (kwS t5.kd), V.ref q3, fv]) nq4
        have s9 := same_new (o := .lst [V.ref q4]) nq6
        refine ⟨q1, q6, xs, _, rfl, rfl, (((s2.trans s7).trans s8).trans s9) _ _ upd_same, upd_same, Nat.le_trans (show xs.length + 1 ≤ 100000 by omega) (by decide), fun q7 nq7 => ?_⟩
        have s10 := same_new (o := .lst (xs ++ [V.ref q4])) nq7
        have sA := ((s17.trans s8).trans s9).trans s10
        refine ky (⟨t5.kd, t5.tk ++ [r]⟩, S5) (by rw [tk6, hfew]; rfl) q7 _ ((s5.trans s6).trans sA) (FrAt.mk upd_same (hxs.pt sA.pt) ?_)
        refine .tup (.inl (.inl (s10 _ _ (s9 _ _ upd_same)))) (.cons (.str _) (.cons (.tup (((s8.trans s9).trans s10).pt.sq hq3) ?_) (.cons (Tv.pt sA.pt hfv) .nil)))
        show Tvs K _ _ (dB (t5.tk ++ [r]))
        rw [dB_snoc]
        exact Tvs.app (htr5.pt sA.pt) (.cons (Tv.pt sA.pt hv) .nil)
      · refine ifD (by rw [hl3]; omega) (kn ?_ H6 (s5.trans s6))
        rw [tk6]
        unfold few manyR
        rw [if_pos (by simpa using h3)]
        rfl
    · have hfew : few r = some r := by
        cases r with
        | note y o ps => exact absurd ⟨y, o, ps, rfl⟩ hnote
        | copy _ _ => rfl
        | give _ _ => rfl
        | ask _ => rfl
        | prt _ => rfl
        | either _ _ => rfl
        | again _ => rfl
      have hl4 : ¬ ((V.str (wordR r) :: tl_).length : Int) = 4 := by
        have : (argsR r).length ≤ 2 := by
          cases r with
          | note y o ps => exact absurd ⟨y, o, ps, rfl⟩ hnote
          | copy _ _ => exact Nat.le_refl _
          | give _ _ => exact Nat.le_refl _
          | ask _ => exact Nat.le_succ _
          | prt _ => exact Nat.le_succ _
          | either _ _ => exact Nat.le_refl _
          | again _ => exact Nat.le_succ _
        rw [List.length_cons]
        omega
      refine ⟨_, rfl, ra, _, rfl, .inr hSr, rfl, _, rfl, ifBF (by rw [dec_int]; simpa using hl4) ?_⟩
      obtain ⟨xs, v5, hlv, hxs, hv5⟩ := (hF5.same s6).top
      obtain ⟨av, rv, fv, rfl, hSv, hrv, hfv⟩ := Tv.frI hv5
      obtain ⟨ar, rs, rfl, hSr5, htr5⟩ := Tv.tupI hrv
      have hxl := hxs.len
      rw [List.length_map, List.length_reverse] at hxl
      have hrl := htr5.len
      rw [dB_eq, List.length_map] at hrl
      refine ⟨_, rfl, 1, rfl, -1, rfl, l5, _, rfl, SqL.of hlv, fun q1 nq1 => ?_⟩
      rw [cutV_but1]
      have s1 := same_new (o := .lst xs) nq1
      refine ⟨_, rfl, 1, rfl, l5, _, -1, _, rfl, rfl, SqL.of (s1 _ _ hlv), atI_last _ _, _, _, _, _, rfl, rfl, s1.pt.sq hSv, rfl, _, rfl, 1, rfl, l5, _, -1, _, rfl, rfl, SqL.of (s1 _ _ hlv), atI_last _ _, _, _, _, _, rfl, rfl, s1.pt.sq hSv, rfl, _, rfl, by show 1 ≤ sizeLine; decide, fun q2 nq2 => ?_⟩
      have s2 := same_new (o := .tup [V.ref ra]) nq2
      have s12 := s1.trans s2
      refine ⟨ar, q2, rs, [.ref ra], rfl, rfl, s12.pt.sq hSr5, .inl (.inl upd_same), Nat.le_trans (show rs.length + 1 ≤ 100000 by omega) (by decide), fun q3 H7 s7 hq3 => ?_⟩
      have s17 := s12.trans s7
      refine ⟨_, rfl, 1, rfl, l5, _, -1, _, rfl, rfl, SqL.of (s17 _ _ hlv), atI_last _ _, _, _, _, _, rfl, rfl, s17.pt.sq hSv, rfl, by show 3 ≤ sizeLine; decide, fun q4 nq4 => ⟨by show 1 ≤ sizeLine; decide, fun q6 nq6 => ?_⟩⟩
      have s8 := same_new (o := .tup [V.str (kwS t5.kd), V.ref q3, fv]) nq4
      have s9 := same_new (o := .lst [V.ref q4]) nq6
      refine ⟨q1, q6, xs, _, rfl, rfl, (((s2.trans s7).trans s8).trans s9) _ _ upd_same, upd_same, Nat.le_trans (show xs.length + 1 ≤ 100000 by omega) (by decide), fun q7 nq7 => ?_⟩
      have s10 := same_new (o := .lst (xs ++ [V.ref q4])) nq7
      have sA := ((s17.trans s8).trans s9).trans s10
      refine ky (⟨t5.kd, t5.tk ++ [r]⟩, S5) (by rw [tk6, hfew]; rfl) q7 _ ((s5.trans s6).trans sA) (FrAt.mk upd_same (hxs.pt sA.pt) ?_)
      refine .tup (.inl (.inl (s10 _ _ (s9 _ _ upd_same)))) (.cons (.str _) (.cons (.tup (((s8.trans s9).trans s10).pt.sq hq3) ?_) (.cons (Tv.pt sA.pt hfv) .nil)))
      show Tvs K _ _ (dB (t5.tk ++ [r]))
      rw [dB_snoc]
      exact Tvs.app (htr5.pt sA.pt) (.cons (Tv.pt sA.pt hv) .nil)
end
end K05
set_option Elab.async false
set_option linter.all false
set_option maxRecDepth 100000
set_option maxHeartbeats 4000000
/-! _law_due. -/
namespace PM
open PySem PySem.Spec PyProof.Rows L2 ZX ZR ZT TL
/-- what is due: a line, a place, a block -/
def dueD (r : Except Nat (List Rw)) (o : Option Int) : PyData := match r, o with
  | .error n, _ => .tuple [.str "line", .int n]
  | .ok b, none => .tuple [.str "block", .tuple (dB b)]
  | .ok _, some i => .tuple [.str "place", .int i]
end PM
namespace K05
open PySem PySem.Spec PyProof.Rows L2 ZX PM ZR ZT TL
abbrev sLDue : Stmt := top 61
def spLDue (K : PySem.W.Frag) : Sp := fun vs H Q _ => ∃ v : V, vs = [v] ∧
  ((NoStr K H v ∧ ∀ u H', Same H H' → Tv K H' u (.tuple [.str "line", .int 0]) → Q u H') ∨
   (∃ tx ls last o, v = .str tx ∧ tx.length ≤ 90000 ∧ Txt.split tx lfS = ls ++ [last] ∧ ls.length ≤ 40000 ∧ (∀ b, readE ls last = .ok b → BadIs (.tup (bD b)) o) ∧ ∀ u H', Same H H' → Tv K H' u (dueD (readE ls last) o) → Q u H'))
section
variable {P : Program} {w : World} {K : PySem.W.Frag} {mg : Str → Option Value} {base : Heap} {C : Addr}
theorem scLDue : FnScope ["_law_text", "_law_lines_here", "_law_frames", "_law_at", "_law_wrong_here"] ["_law_text"] (defScope sLDue) := ⟨rfl, rfl, rfl, by decide +kernel, rfl, by decide +kernel, by decide +kernel⟩
theorem ok_ldue {f : Addr} {fd : FuncData} (F : FnP K "_law_due" sLDue f fd) (T : Bi mg) (C_closed : Cal P w K mg base "_law_closed" 1 ["_law_frames"] (spLClosed K)) (C_taken : Cal P w K mg base "_law_taken" 3 ["_law_frames", "_law_line"] (spLTaken K)) (C_wrong : Cal P w K mg base "_law_wrong" 7 ["_law_block_here"] (spLWrong K C)) : FnOk P w K mg base CX0 8 f fd ["_law_text"] (spLDue K) := by
  refine F.ok scLDue (fun vs H Q E h => ?_) (fun cdv A outer s H vs Q E hr h => ?_)
  · obtain ⟨v, rfl, _⟩ := h
    rfl
  · obtain ⟨v, rfl, h⟩ := h
    have hr1 := hr.mono (show 1 ≤ 7 by decide)
    have hr3 := hr.mono (show 3 ≤ 7 by decide)
    refine ⟨_, PSs.nox (pss_cons (ps_if (pt_not (pt_val (pe_callB call_isi (by rfl) T.b_isinstance (by decide +kernel) (pa_cons (pv 0) (pa_cons (pe_bltn (v := .ty "str") (by rfl) T.b_str (by decide +kernel) rfl) pa_nil))))) (pss_one (ps_ret (pe_tup (pa_cons pe_str (pa_cons pe_int pa_nil))))) pss_nil)
    (pss_cut (ps_set (i := 1) scLDue.nd rfl (Or.inl rfl) (pe_split (pv 0) pe_str))
    (pss_cut (ps_set (i := 2) scLDue.nd rfl (Or.inl rfl) (pe_lst (pa_cons (pe_tup (pa_cons pe_str (pa_cons (pe_tup pa_nil) (pa_cons (pe_tup pa_nil) pa_nil)))) pa_nil)))
    (pss_cut (ps_for PassesOwn.never rfl (pi_range1 rfl T.b_range (pa_cons (pe_op op_sub (pe_callB call_len_seq (by rfl) T.b_len (by decide +kernel) (pa_cons (pv 1) pa_nil)) pe_int) pa_nil)) (pg_name (i := 3) scLDue.nd rfl (Or.inl rfl)) (pss_cons (ps_set (i := 2) scLDue.nd rfl (Or.inl rfl) (pcal C_taken hr3 rfl (pa_cons (pv 2) (pa_cons (pe_ix ix_list (pv 1) (pv 3) (fun _ _ => rfl)) pa_nil))))
      (pss_one (ps_if (pt_cmpR op_isN (pv 2) pe_non (nomark _)) (pss_one (ps_ret (pe_tup (pa_cons pe_str (pa_cons (pe_op op_add (pv 3) pe_int) pa_nil))))) pss_nil))))
    (pss_cut (ps_while PassesOwn.never (pt_cmpR op_gt (pe_callB call_len_seq (by rfl) T.b_len (by decide +kernel) (pa_cons (pv 2) pa_nil)) pe_int (nomark _)) (pss_cons (ps_if (pt_cmpR op_eq (pe_ix ix_tup (pe_ix ix_list (pv 2) (pe_un un_neg pe_int) (fun _ _ => rfl)) pe_int (fun _ _ => rfl)) pe_str (nomark _)) (pss_one (ps_ret (pe_tup (pa_cons pe_str (pa_cons (pe_callB call_len_seq (by rfl) T.b_len (by decide +kernel) (pa_cons (pv 1) pa_nil)) pa_nil))))) pss_nil)
      (pss_one (ps_set (i := 2) scLDue.nd rfl (Or.inl rfl) (pcal C_closed hr1 rfl (pa_cons (pv 2) pa_nil))))))
    (pss_cons (ps_if (pt_cmpR op_ne (pe_ix ix_list (pv 1) (pe_un un_neg pe_int) (fun _ _ => rfl)) pe_str (nomark _)) (pss_one (ps_ret (pe_tup (pa_cons pe_str (pa_cons (pe_callB call_len_seq (by rfl) T.b_len (by decide +kernel) (pa_cons (pv 1) pa_nil)) pa_nil))))) pss_nil)
    (pss_cons (ps_set (i := 4) scLDue.nd rfl (Or.inl rfl) (pcal C_wrong hr rfl (pa_cons (pe_ix ix_tup (pe_ix ix_list (pv 2) pe_int (fun _ _ => rfl)) pe_int (fun _ _ => rfl)) pa_nil)))
    (pss_one (ps_ret (pe_ifExp (pt_cmpR op_isN (pv 4) pe_non (nomark _)) (pe_tup (pa_cons pe_str (pa_cons (pe_ix ix_tup (pe_ix ix_list (pv 2) pe_int (fun _ _ => rfl)) pe_int (fun _ _ => rfl)) pa_nil))) (pe_tup (pa_cons pe_str (pa_cons (pv 4) pa_nil))))))))))))), ?_⟩
    rcases h with ⟨⟨t, ht, hk⟩, k⟩ | ⟨tx, ls, last, o, rfl, htx, hsp, hls, hB, k⟩
    · exact ⟨_, rfl, _, _, _, _, false, rfl, .ty "str", ht, hk, false, rfl, by show 2 ≤ sizeLine; decide, fun q nq => k _ _ (same_new nq) (.tup (.inl (.inl upd_same)) (.cons (.str _) (.cons (.int _) .nil)))⟩
    have h10 : (("\n" : Str).length == 0) = false := by decide +kernel
    refine ⟨_, rfl, _, _, _, _, true, rfl, .ty "str", .base (.str tx), rfl, true, rfl, ?_⟩
    refine ⟨fun σ2 H2 => ∃ la, σ2 = [some (.str tx), some (.ref la), none, none, none] ∧ Same H H2 ∧ H2 la = some (.lst ((ls ++ [last]).map V.str)), ?_, ?_⟩
    · refine ⟨_, rfl, ⟨_, rfl⟩, tx, _, rfl, rfl, h10, Nat.le_trans (show tx.length + 2 ≤ 100002 by omega) (by decide), fun pa na => ⟨pa, rfl, same_new na, ?_⟩⟩
      rw [upd_same, show Txt.split tx (Str.ofString "\n") = ls ++ [last] from hsp]
    rintro σ2 H2 ⟨la, rfl, s2, hla⟩
    have hll : ((ls ++ [last]).map V.str).length = ls.length + 1 := by simp
    refine ⟨fun σ3 H3 => ∃ l, σ3 = [some (.str tx), some (.ref la), some (.ref l), none, none] ∧ Same H2 H3 ∧ FrAt K H3 l (⟨.base, []⟩, []), ?_, ?_⟩
    · refine ⟨by decide, fun q1 nq1 => ⟨by decide, fun q2 nq2 => ⟨by show 3 ≤ sizeLine; decide, fun q3 nq3 => ⟨by show 1 ≤ sizeLine; decide, fun q4 nq4 => ?_⟩⟩⟩⟩
      have s1 := same_new (o := .tup []) nq1
      have s2 := same_new (o := .tup []) nq2
      have s3 := same_new (o := .tup [V.str "whole", V.ref q1, V.ref q2]) nq3
      have s4 := same_new (o := .lst [V.ref q3]) nq4
      refine ⟨q4, rfl, ((s1.trans s2).trans s3).trans s4, FrAt.mk (xs := []) upd_same .nil ?_⟩
      exact .tup (.inl (.inl (s4 _ _ upd_same))) (.cons (.str _) (.cons (.tup (.inl (.inl (((s2.trans s3).trans s4) _ _ upd_same))) .nil) (.cons (.tup (.inl (.inl ((s3.trans s4) _ _ upd_same))) .nil) .nil)))
    rintro σ3 H3 ⟨l, rfl, s3, hF⟩
    have s23 := s2.trans s3
    have hla3 := s3 _ _ hla
    have lineQ : ∀ {n : Nat}, readE ls last = .error n → ∀ {G : Hp} {q : Addr}, Same H G → G q = none → Q (.ref q) (upd G q (.tup [V.str "line", V.int (n : Int)])) := fun {n} e {G q} sG nq => by
      have := k (.ref q) _ (sG.trans (same_new (o := .tup [V.str "line", V.int (n : Int)]) nq))
      rw [e] at this
      exact this (.tup (.inl (.inl upd_same)) (.cons (.str _) (.cons (.int _) .nil)))
    obtain ⟨ls', last', e1, _, hbd⟩ := split_last tx
    rw [← e1, hsp] at hbd
    have lens : ∀ {G : Hp} {m : Addr} {t : Op} {S : List Op}, FrAt K G m (t, S) → ∃ us : List V, G m = some (.lst us) ∧ us.length = S.length + 1 := fun {G m t S} h => by
      obtain ⟨us, h1, h2⟩ := h
      have := h2.len
      rw [List.length_map, List.length_reverse] at this
      exact ⟨us, h1, this⟩
    refine ⟨fun σ' H' => ∃ l p y3, σ' = [some (.str tx), some (.ref la), some (.ref l), y3, none] ∧ Same H3 H' ∧ FrAt K H' l p ∧ LayP p ∧ BaseP p.1 p.2 ∧ szP p ≤ 60000 ∧ runE 1 ls (⟨.base, []⟩, []) = .ok p, ?_, ?_⟩
    · refine ⟨_, rfl, la, _, rfl, .inl (SqL.of hla3), _, _, rfl, rfl, _, rfl, by rw [hll]; omega, by rw [hll]; omega, ?_⟩
      refine for_range (fun i σ' H' => ∃ l p y3, σ' = [some (.str tx), some (.ref la), some (.ref l), y3, none] ∧ Same H3 H' ∧ FrAt K H' l p ∧ LayP p ∧ BaseP p.1 p.2 ∧ szP p ≤ 1 + i ∧ runE (i + 1) (ls.drop i) p = runE 1 ls (⟨.base, []⟩, [])) ⟨l, _, none, rfl, fun _ _ h => h, hF, ?_, trivial, by decide, rfl⟩ ?_ ?_
      · intro o ho
        rw [List.mem_singleton.mp ho]
        exact ⟨rfl, rfl⟩
      · rintro i σ' H' hi ⟨l', p', y3, rfl, s', hF', hL', hB', hz', hrun'⟩
        have hi' : i < ls.length := by
          rw [hll] at hi
          omega
        have hget : ((ls ++ [last]).map V.str)[i]? = some (V.str ls[i]) := by
          rw [List.getElem?_map, List.getElem?_append_left hi', List.getElem?_eq_getElem hi']
          rfl
        have hdr : ls.drop i = ls[i] :: ls.drop (i + 1) := List.drop_eq_getElem_cons hi'
        rw [hdr] at hrun'
        have hlb := Nat.le_trans (hbd ls[i] (List.mem_append_left _ (List.getElem_mem hi'))) htx
        refine ⟨_, rfl, _, rfl, _, rfl, la, _, _, _, rfl, rfl, SqL.of (s' _ _ hla3), at_of (j := i) (by omega) hget, l', p', ls[i], rfl, hF', hB', by omega, hlb, fun e H4 s4 => ⟨_, rfl, rfl, _, rfl, ifB (by rfl) ?_⟩, fun q e l4 H4 s4 hF4 => ⟨_, rfl, rfl, _, rfl, ifBF (by rfl) ?_⟩⟩
        · refine ⟨_, rfl, _, _, rfl, rfl, by show 2 ≤ sizeLine; decide, fun q nq => ?_⟩
          have ee : ((0 : Int) + (i : Int)) + 1 = ((i + 1 : Nat) : Int) := by omega
          have er : readE ls last = .error (i + 1) := by
            unfold readE
            rw [← hrun', runE, e]
          have hQ := lineQ er ((s23.trans s').trans s4) nq
          rw [← ee] at hQ
          exact hQ
        · obtain ⟨a1, a2, a3⟩ := take_keep e hL' hB'
          refine ⟨l4, q, _, rfl, s'.trans s4, hF4, a1, a2, by omega, ?_⟩
          rw [← hrun', runE, e]
      · rintro σ' H' ⟨l', p', y3, rfl, s', hF', hL', hB', hz', hrun'⟩
        have en : ((((ls ++ [last]).map V.str).length : Int) - 1).toNat = ls.length := by
          rw [hll]
          omega
        rw [en] at hz' hrun'
        rw [List.drop_length, runE] at hrun'
        exact ⟨l', p', y3, rfl, s', hF', hL', hB', by omega, hrun'.symm⟩
    rintro σ4 H4 ⟨l4, p, y3, rfl, s4, hF4, hL4, hB4, hz4, hrun⟩
    have er : readE ls last = if last ≠ Str.empty then .error (ls.length + 1) else match closeF 1 p.1 p.2 with
        | none => .error (ls.length + 1)
        | some r => .ok r.1.tk := by
      unfold readE
      rw [hrun] <;> rfl
    have s24 := s23.trans s4
    have hla4 := s4 _ _ hla3
    refine ⟨fun σ' H' => ∃ l5 t, σ' = [some (.str tx), some (.ref la), some (.ref l5), y3, none] ∧ Same H4 H' ∧ FrAt K H' l5 (t, []) ∧ closeF 1 p.1 p.2 = some (t, []), ?_, ?_⟩
    · refine ⟨fun m σ' H' => ∃ l5 t S, σ' = [some (.str tx), some (.ref la), some (.ref l5), y3, none] ∧ Same H4 H' ∧ FrAt K H' l5 (t, S) ∧ BaseP t S ∧ szP (t, S) ≤ 80000 ∧ closeF 1 t S = closeF 1 p.1 p.2 ∧ S.length = m, ⟨_, l4, p.1, p.2, rfl, fun _ _ h => h, hF4, hB4, Nat.le_trans hz4 (by decide), rfl, rfl⟩, ?_⟩
      rintro m σ' H' ⟨l5, t, S, rfl, s', hF', hB', hz', hc', rfl⟩
      obtain ⟨us', hl', hul'⟩ := lens hF'
      refine ⟨_, rfl, l5, us', rfl, .inl (SqL.of hl'), _, _, rfl, rfl, _, rfl, ?_⟩
      rw [hul']
      cases S with
      | nil =>
        refine ifDF (by show ¬ ((1 : Int) < ((0 + 1 : Nat) : Int)); omega) ?_
        exact ⟨l5, t, rfl, s', hF', by rw [← hc', closeF]⟩
      | cons u S =>
      refine ifD (by show ((1 : Int) < (((u :: S).length + 1 : Nat) : Int)); rw [List.length_cons]; omega) ?_
      refine ⟨fun σ2 H2 => ∃ m', m' < (u :: S).length ∧ ∃ l5 t S, σ2 = [some (.str tx), some (.ref la), some (.ref l5), y3, none] ∧ Same H4 H2 ∧ FrAt K H2 l5 (t, S) ∧ BaseP t S ∧ szP (t, S) ≤ 80000 ∧ closeF 1 t S = closeF 1 p.1 p.2 ∧ S.length = m', fun _ _ h => h, ?_⟩
      obtain ⟨xs, v, hlv, hxs, hv⟩ := hF'.top
      obtain ⟨av, rv, fv, rfl, hSv, hrv, hfv⟩ := Tv.frI hv
      refine ⟨_, rfl, 1, rfl, l5, _, -1, _, rfl, rfl, SqL.of hlv, atI_last _ _, _, _, _, _, rfl, rfl, hSv, rfl, rfl, _, rfl, ?_⟩
      rw [dec_str, kw_first]
      have hcl : closeF 1 t (u :: S) = if isE1 t.kd then none else closeF 1 ⟨u.kd, u.tk ++ [rowK t.kd t.tk]⟩ S := by
        rw [closeF, if_pos (by omega)]
      cases hE : isE1 t.kd with
      | true =>
        rw [← hc', hcl, hE, if_pos rfl] at er
        refine ifB rfl ⟨_, rfl, la, _, rfl, .inl (SqL.of (s' _ _ hla4)), by show 2 ≤ sizeLine; decide, fun q nq => ?_⟩
        rw [hll]
        refine lineQ ?_ (s24.trans s') nq
        rw [er]
        split <;> rfl
      | false =>
        rw [hE, if_neg (by decide)] at hcl
        have hz2 : szP (⟨u.kd, u.tk ++ [rowK t.kd t.tk]⟩, S) ≤ 80000 := by
          rw [szP_two, szP_cons] at hz'
          rw [szP_cons, List.length_append, List.length_singleton]
          omega
        refine ifBF rfl ⟨_, rfl, l5, t, u, S, rfl, hF', hB'.1, (fun z => by rw [z] at hE; cases hE), by omega, fun l2 H2 s2 hF2 => ?_⟩
        exact ⟨S.length, Nat.lt_succ_self _, l2, ⟨u.kd, u.tk ++ [rowK t.kd t.tk]⟩, S, rfl, s'.trans s2, hF2, baseP_kd (t := u) (u := ⟨u.kd, u.tk ++ [rowK t.kd t.tk]⟩) rfl hB'.2, hz2, by rw [← hc', hcl], rfl⟩
    rintro σ5 H5 ⟨l5, t, rfl, s5, hF5, hcl⟩
    rw [hcl] at er
    have s25 := s24.trans s5
    have hla5 := s5 _ _ hla4
    refine ⟨_, rfl, 1, rfl, la, _, -1, _, rfl, rfl, SqL.of hla5, by rw [List.map_append]; exact atI_last _ _, rfl, _, rfl, ?_⟩
    rw [dec_str]
    by_cases hlast : last = Str.empty
    rotate_left
    · rw [if_pos hlast] at er
      have hla2 : ¬ last = ("" : Str) := fun e => hlast (by rw [e]; decide +kernel)
      refine ifB (by simpa using hla2) ⟨_, rfl, la, _, rfl, .inl (SqL.of hla5), by show 2 ≤ sizeLine; decide, fun q nq => ?_⟩
      rw [hll]
      exact lineQ er s25 nq
    rw [if_neg (by simpa using hlast)] at er
    have er : readE ls last = .ok t.tk := er
    obtain ⟨wf, hn⟩ := read_keep er
    obtain ⟨xs, v, hlv, hxs, hv⟩ := hF5.top
    obtain ⟨av, rv, fv, rfl, hSv, hrv, hfv⟩ := Tv.frI hv
    cases hxs
    obtain ⟨ar, rs, rfl, hSr, htr⟩ := Tv.tupI hrv
    have hsz := sz_bD t.tk wf
    refine ifBF (by rw [hlast]; rfl) ⟨_, rfl, l5, _, 0, _, rfl, rfl, SqL.of hlv, rfl, _, _, _, _, rfl, rfl, hSv, rfl, .ref ar, .tup (bD t.tk), o, rfl, .tup hSr (Tvs.wb _ _ wf htr), by rw [szD]; omega, hB _ er, fun H6 s6 => ?_⟩
    rw [er] at k
    have s26 := s25.trans s6
    refine ⟨_, rfl, rfl, _, rfl, ?_⟩
    cases o with
    | none =>
      refine ifB (by rfl) ⟨_, rfl, l5, _, 0, _, rfl, rfl, SqL.of (s6 _ _ hlv), rfl, _, _, _, _, rfl, rfl, s6.pt.sq hSv, rfl, by show 2 ≤ sizeLine; decide, fun q nq => k _ _ (s26.trans (same_new nq)) ?_⟩
      exact .tup (.inl (.inl upd_same)) (.cons (.str _) (.cons (Tv.pt (Pt.new nq) (Tv.pt s6.pt hrv)) .nil))
    | some i =>
      refine ifBF (by rfl) ⟨_, rfl, by show 2 ≤ sizeLine; decide, fun q nq => k _ _ (s26.trans (same_new nq)) ?_⟩
      exact .tup (.inl (.inl upd_same)) (.cons (.str _) (.cons (.int _) .nil))
end
end K05
set_option Elab.async false
set_option linter.all false
set_option maxRecDepth 100000
set_option maxHeartbeats 4000000
/-! _law_told. -/
namespace K05
open PySem PySem.Spec PyProof.Rows L2 ZX PM ZR ZT TL
abbrev sLTold : Stmt := top 62
/-- an error's class, as an except asks of it -/
structure ErX (K : PySem.W.Frag) (mg : Str → Option Value) (x f : Str) (CN : Addr) : Prop where
  g : mg x = some (.ref CN)
  xf : XfC K CN
  no : PySem.W.findIn K (.ref CN) f = some none
  ex : PySem.W.exmOne K (.ref CN) (.ref CN) = some true
section
variable {P : Program} {w : World} {K : PySem.W.Frag} {mg : Str → Option Value} {base : Heap} {C CT CB CE : Addr}
theorem scLTold : FnScope ["_law_text", "_law_told_here", "e"] ["_law_text"] (defScope sLTold) := ⟨rfl, rfl, rfl, by decide +kernel, rfl, by decide +kernel, by decide +kernel⟩
theorem ok_ltold {f : Addr} {fd : FuncData} (F : FnP K "_law_told" sLTold f fd) (T : Bi mg) (pc : PrC K C) (xT : ErX K mg "BadText" "line" CT) (xB : ErX K mg "BadProgram" "place" CB) (exBT : PySem.W.exmOne K (.ref CB) (.ref CT) = some false) (gE : mg "PileError" = some (.ref CE)) (C_read : CalX P w K mg base "read_program" 18 ["text"] (spReadProg K C CT CB)) : FnOk P w K mg base CX0 19 f fd ["_law_text"] (spLDue K) := by
  refine F.ok scLTold (fun vs H Q E h => ?_) (fun cdv A outer s H vs Q E hr h => ?_)
  · obtain ⟨v, rfl, _⟩ := h
    rfl
  · obtain ⟨v, rfl, h⟩ := h
    refine ⟨_, PSs.nox (pss_cut (ps_set (i := 1) scLTold.nd rfl (Or.inl rfl) (pe_tup (pa_cons pe_str (pa_cons pe_int pa_nil))))
    (pss_cons (ps_try_mix (tb := fun W => tAsg (tTup (tCons (tC (.str "block")) (tCons (tFld K (tCallS (spReadProg K C CT CB) (WE W) (tCons (tVar 0) tNil)) "block") tNil))) (gName 1)) (Wout := fun _ _ _ _ => False) rfl rfl takes0 (fun W pn xe tk _ => pss_one (ps_set (i := 1) scLTold.nd rfl (Or.inl rfl) (pe_tup (pa_cons pe_str (pa_cons (pe_fld (pcalS (x := "read_program") C_read hr tk rfl (pa_cons (pv 0) pa_nil)) rfl) pa_nil)))))
      (.as_ (i := 2) scLTold.nd rfl rfl ⟨rfl, by decide, Or.inl xT.g⟩ (fun a oe cls d pn hz hf => pss_one (ps_set (i := 1) scLTold.nd rfl (Or.inl rfl) (pe_tup (pa_cons pe_str (pa_cons (pe_xf xT.xf xT.no hz hf (pv 2)) pa_nil)))))
      (.as_ (i := 2) scLTold.nd rfl rfl ⟨rfl, by decide, Or.inl xB.g⟩ (fun a oe cls d pn hz hf => pss_one (ps_set (i := 1) scLTold.nd rfl (Or.inl rfl) (pe_tup (pa_cons pe_str (pa_cons (pe_xf xB.xf xB.no hz hf (pv 2)) pa_nil)))))
      (.one ⟨rfl, by decide, Or.inl gE⟩ (fun _ _ _ _ _ _ _ => pss_one (ps_set (i := 1) scLTold.nd rfl (Or.inl rfl) (pe_tup (pa_cons pe_str (pa_cons pe_int pa_nil))))) .nil))))
    (pss_one (ps_ret (pv 1))))), ?_⟩
    refine ⟨fun σ2 H2 => ∃ u, σ2 = [some v, some u, none] ∧ Same H H2, ⟨by show 2 ≤ sizeLine; decide, fun q nq => ⟨_, rfl, same_new nq⟩⟩, ?_⟩
    rintro σ2 H2 ⟨u, rfl, s2⟩
    have tupT : ∀ {G : Hp} {q : Addr} {w_ : String} {n : Int}, Tv K (upd G q (.tup [.str (Str.ofString w_), .int n])) (.ref q) (.tuple [.str (Str.ofString w_), .int n]) := fun {G q w_ n} => .tup (.inl (.inl upd_same)) (.cons (.str _) (.cons (.int _) .nil))
    rcases h with ⟨hv, k⟩ | ⟨tx, ls, last, o, rfl, htx, hsp, hls, hB, k⟩
    · refine ⟨_, rfl, v, rfl, .inl ⟨hv.same s2, fun e H3 s3 he => ⟨true, xT.ex, fun _ a na => ?_, fun z => nomatch z⟩⟩⟩
      exact ⟨_, rfl, rfl, rfl, e, _, _, rfl, he, rfl, by show 2 ≤ sizeLine; decide, fun q nq => ⟨_, rfl, k _ _ ((s2.trans s3).trans (same_new nq)) tupT⟩⟩
    refine ⟨_, rfl, .str tx, rfl, .inr ⟨tx, ls, last, o, rfl, htx, hsp, hls, hB, fun n hn e H3 s3 he => ⟨true, xT.ex, fun _ a na => ?_, fun z => nomatch z⟩, fun b hb => ⟨fun eo x dx fs vb H3 s3 hx hlk hvb => ?_, fun i eo e H3 s3 he => ?_⟩⟩⟩
    · rw [hn] at k
      exact ⟨_, rfl, rfl, rfl, e, _, _, rfl, he, rfl, by show 2 ≤ sizeLine; decide, fun q nq => ⟨_, rfl, k _ _ ((s2.trans s3).trans (same_new nq)) tupT⟩⟩
    · rw [hb, eo] at k
      refine ⟨x, C, dx, fs, vb, rfl, hx, pc.c, pc.n1, hlk, by show 2 ≤ sizeLine; decide, fun q nq => ⟨_, rfl, k _ _ ((s2.trans s3).trans (same_new nq)) ?_⟩⟩
      exact .tup (.inl (.inl upd_same)) (.cons (.str _) (.cons (Tv.pt (Pt.new nq) hvb) .nil))
    · rw [hb, eo] at k
      refine ⟨false, exBT, (fun z => absurd z (by decide)), (fun _ => ⟨true, xB.ex, (fun _ a na => ?_), (fun z => absurd z (by decide))⟩)⟩
      exact ⟨_, rfl, rfl, rfl, e, _, _, rfl, he, rfl, by show 2 ≤ sizeLine; decide, fun q nq => ⟨_, rfl, k _ _ ((s2.trans s3).trans (same_new nq)) tupT⟩⟩
end
end K05
set_option Elab.async false
set_option linter.all false
set_option maxRecDepth 100000
set_option maxHeartbeats 4000000
/-! _law_row_text. -/
namespace K05
open PySem PySem.Spec PyProof.Rows L2 ZX PM ZR ZT TL
abbrev sLRowText : Stmt := top 55
def spLRowText (K : PySem.W.Frag) : Sp := fun vs H Q _ => ∃ (v : V) (e : Nat) (r : Rw), vs = [v] ∧ RV K H v r ∧ okR e r ∧ smallR r ∧ plainR r = true ∧ ∀ H', Same H H' → Q (.str (txtR r)) H'
section
variable {P : Program} {w : World} {K : PySem.W.Frag} {mg : Str → Option Value} {base : Heap}
theorem scLRowText : FnScope ["_law_row"] ["_law_row"] (defScope sLRowText) := ⟨rfl, rfl, rfl, by decide +kernel, rfl, by decide +kernel, by decide +kernel⟩
theorem ok_lrow_text {f : Addr} {fd : FuncData} (F : FnP K "_law_row_text" sLRowText f fd) (T : Bi mg) : FnOk P w K mg base CX0 1 f fd ["_law_row"] (spLRowText K) := by
  refine F.ok scLRowText (fun vs H Q E h => ?_) (fun cdv A outer s H vs Q E hr h => ?_)
  · obtain ⟨v, e, r, rfl, _⟩ := h
    rfl
  · obtain ⟨v, e, r, rfl, tv, ok, sm, pl, k⟩ := h
    refine ⟨_, PSs.nox (pss_cons (ps_if (pt_cmpR op_eq (pe_ix ix_tup (pv 0) pe_int (fun _ _ => rfl)) pe_str (nomark _)) (pss_one (ps_ret (pe_op op_add_str (pe_op op_add_str (pe_op op_add_str (pe_op op_add_str (pe_op op_add_str (pe_ix ix_tup (pv 0) pe_int (fun _ _ => rfl)) pe_str) (pe_ix ix_tup (pv 0) pe_int (fun _ _ => rfl))) pe_str) (pe_join pe_str (pe_ix ix_tup (pv 0) pe_int (fun _ _ => rfl)))) pe_str))) pss_nil)
    (pss_cons (ps_if (pt_cmpR op_in_seq (pe_ix ix_tup (pv 0) pe_int (fun _ _ => rfl)) (pe_tup (pa_cons pe_str (pa_cons pe_str pa_nil))) (by with_unfolding_all rfl)) (pss_one (ps_ret (pe_op op_add_str (pe_op op_add_str (pe_ix ix_tup (pv 0) pe_int (fun _ _ => rfl)) pe_str) (pe_callTy (callR_or SkE.call_str_str call_str_int) (by rfl) T.b_str (by decide +kernel) (pa_cons (pe_ix ix_tup (pv 0) pe_int (fun _ _ => rfl)) pa_nil))))) pss_nil)
    (pss_one (ps_ret (pe_op op_add_str (pe_op op_add_str (pe_ix ix_tup (pv 0) pe_int (fun _ _ => rfl)) pe_str) (pe_ix ix_tup (pv 0) pe_int (fun _ _ => rfl))))))), ?_⟩
    obtain ⟨ra, tl_, rfl, hR, hrt⟩ := tv.rowI
    have he : (" = " : Str).length = 3 := by decide +kernel
    have hp : ("(" : Str).length = 1 := by decide +kernel
    have hq : (")" : Str).length = 1 := by decide +kernel
    have hb : (" " : Str).length = 1 := by decide +kernel
    cases r with
    | either b1 b2 => cases pl
    | again b1 => cases pl
    | note x o ps =>
      obtain ⟨n1, n2, l3, n3⟩ := ok
      have hx8 := n1.2.1
      have ho8 := n2.2.1
      have hj := jn_len (", " : Str) ps
      have hps := names_sum n3
      have hc : (", " : Str).length = 2 := by decide +kernel
      rw [hc] at hj
      obtain ⟨v1, v2, v3, rfl, t1, t2, t3⟩ := hrt.three
      cases t1.strI
      cases t2.strI
      obtain ⟨a3, xs3, rfl, hS3, ht3⟩ := t3.tupI
      have e3 := Tvs.strs ht3
      subst e3
      refine ⟨_, rfl, _, _, _, _, rfl, rfl, hR, rfl, rfl, _, rfl, ifD rfl ?_⟩
      refine ⟨_, rfl, _, _, _, _, rfl, rfl, hR, rfl, x, _, rfl, rfl, lnS (n := 80) (by simp only [len_app, he]; omega), ?_⟩
      refine ⟨_, rfl, _, _, _, _, rfl, rfl, hR, rfl, _, o, rfl, rfl, lnS (n := 80) (by simp only [len_app, he]; omega), ?_⟩
      refine ⟨_, _, rfl, rfl, lnS (n := 80) (by simp only [len_app, he, hp]; omega), ?_⟩
      refine ⟨⟨_, rfl⟩, _, rfl, _, _, _, _, rfl, rfl, hR, rfl, _, a3, ps, rfl, rfl, .inr hS3, by rw [hc]; omega, ?_⟩
      refine ⟨_, _, rfl, rfl, lnS (n := 80) (by simp only [len_app, he, hp]; omega), ?_⟩
      refine ⟨_, _, rfl, rfl, lnS (n := 80) (by simp only [len_app, he, hp, hq]; omega), ?_⟩
      exact k _ (fun _ _ h => h)
    | copy x y =>
      obtain ⟨n1, n2⟩ := ok
      have hx8 := n1.2.1
      have hy8 := n2.2.1
      obtain ⟨v1, v2, rfl, t1, t2⟩ := hrt.two
      cases t1.strI
      cases t2.strI
      refine ⟨_, rfl, _, _, _, _, rfl, rfl, hR, rfl, rfl, _, rfl, ifDF (neS (a := "copy") (b := "note") (by decide +kernel)) ?_⟩
      refine ⟨_, rfl, _, _, _, _, rfl, rfl, hR, rfl, by decide, fun t nt => ⟨_, _, rfl, .inr (.inl (.inl upd_same)), rfl, rfl, _, rfl, ifB (show inV (V.str (Str.ofString "copy")) [V.str (Str.ofString "copy"), V.str (Str.ofString "give")] = true by decide +kernel) ?_⟩⟩
      have hR := (Pt.new (o := .tup [V.str "copy", V.str "give"]) nt).sq hR
      refine ⟨_, rfl, _, _, _, _, rfl, rfl, hR, rfl, x, _, rfl, rfl, lnS (n := 80) (by simp only [len_app, he]; omega), ?_⟩
      refine ⟨_, rfl, _, _, _, _, rfl, rfl, hR, rfl, .inl ⟨y, rfl, ?_⟩⟩
      refine ⟨_, _, rfl, rfl, lnS (n := 80) (by simp only [len_app, he]; omega), ?_⟩
      exact k _ (same_new nt)
    | give x i =>
      have n1 : NameOk x := ok
      have hx8 := n1.2.1
      have si : i.natAbs < 10 ^ 40 := sm
      have hi := numT_len si
      obtain ⟨v1, v2, rfl, t1, t2⟩ := hrt.two
      cases t1.strI
      cases t2.intI
      refine ⟨_, rfl, _, _, _, _, rfl, rfl, hR, rfl, rfl, _, rfl, ifDF (neS (a := "give") (b := "note") (by decide +kernel)) ?_⟩
      refine ⟨_, rfl, _, _, _, _, rfl, rfl, hR, rfl, by decide, fun t nt => ⟨_, _, rfl, .inr (.inl (.inl upd_same)), rfl, rfl, _, rfl, ifB (show inV (V.str (Str.ofString "give")) [V.str (Str.ofString "copy"), V.str (Str.ofString "give")] = true by decide +kernel) ?_⟩⟩
      have hR := (Pt.new (o := .tup [V.str "copy", V.str "give"]) nt).sq hR
      refine ⟨_, rfl, _, _, _, _, rfl, rfl, hR, rfl, x, _, rfl, rfl, lnS (n := 80) (by simp only [len_app, he]; omega), ?_⟩
      refine ⟨_, rfl, _, _, _, _, rfl, rfl, hR, rfl, .inr ⟨i, rfl, log_small si, ?_⟩⟩
      refine ⟨_, numT i, rfl, rfl, lnS (n := 80) (by simp only [len_app, he]; omega), ?_⟩
      exact k _ (same_new nt)
    | ask x =>
      have n1 : NameOk x := ok
      have hx8 := n1.2.1
      have hw : ("ask" : Str).length = 3 := by decide +kernel
      obtain ⟨v1, rfl, t1⟩ := hrt.one
      cases t1.strI
      refine ⟨_, rfl, _, _, _, _, rfl, rfl, hR, rfl, rfl, _, rfl, ifDF (neS (a := "ask") (b := "note") (by decide +kernel)) ?_⟩
      refine ⟨_, rfl, _, _, _, _, rfl, rfl, hR, rfl, by decide, fun t nt => ⟨_, _, rfl, .inr (.inl (.inl upd_same)), rfl, rfl, _, rfl, ifBF (show inV (V.str (Str.ofString "ask")) [V.str (Str.ofString "copy"), V.str (Str.ofString "give")] = false by decide +kernel) ?_⟩⟩
      have hR := (Pt.new (o := .tup [V.str "copy", V.str "give"]) nt).sq hR
      refine ⟨_, rfl, _, _, _, _, rfl, rfl, hR, rfl, _, _, rfl, rfl, lnS (n := 80) (by show ("ask" : Str).length + _ ≤ _; simp only [len_app, hw, hb]; omega), ?_⟩
      refine ⟨_, rfl, _, _, _, _, rfl, rfl, hR, rfl, _, x, rfl, rfl, lnS (n := 80) (by show (("ask" : Str) ++ _).length + _ ≤ _; simp only [len_app, hw, hb]; omega), ?_⟩
      exact k _ (same_new nt)
    | prt x =>
      have n1 : NameOk x := ok
      have hx8 := n1.2.1
      have hw : ("print" : Str).length = 5 := by decide +kernel
      obtain ⟨v1, rfl, t1⟩ := hrt.one
      cases t1.strI
      refine ⟨_, rfl, _, _, _, _, rfl, rfl, hR, rfl, rfl, _, rfl, ifDF (neS (a := "print") (b := "note") (by decide +kernel)) ?_⟩
      refine ⟨_, rfl, _, _, _, _, rfl, rfl, hR, rfl, by decide, fun t nt => ⟨_, _, rfl, .inr (.inl (.inl upd_same)), rfl, rfl, _, rfl, ifBF (show inV (V.str (Str.ofString "print")) [V.str (Str.ofString "copy"), V.str (Str.ofString "give")] = false by decide +kernel) ?_⟩⟩
      have hR := (Pt.new (o := .tup [V.str "copy", V.str "give"]) nt).sq hR
      refine ⟨_, rfl, _, _, _, _, rfl, rfl, hR, rfl, _, _, rfl, rfl, lnS (n := 80) (by show ("print" : Str).length + _ ≤ _; simp only [len_app, hw, hb]; omega), ?_⟩
      refine ⟨_, rfl, _, _, _, _, rfl, rfl, hR, rfl, _, x, rfl, rfl, lnS (n := 80) (by show (("print" : Str) ++ _).length + _ ≤ _; simp only [len_app, hw, hb]; omega), ?_⟩
      exact k _ (same_new nt)
end
end K05
set_option Elab.async false
set_option linter.all false
set_option maxRecDepth 100000
set_option maxHeartbeats 4000000
/-! _law_lines. -/
namespace ZT
open PySem PySem.Spec PyProof.Rows L2 ZX PM TL
theorem mul_ind : ∀ {d : Nat}, d ≤ 4 → MulOk ("  " : Str) (d : Int) ∧ Txt.mul ("  " : Str) (d : Int) = indS d
  | 0, _ => ⟨⟨by decide, by decide +kernel, by decide +kernel⟩, by decide +kernel⟩
  | 1, _ => ⟨⟨by decide, by decide +kernel, by decide +kernel⟩, by decide +kernel⟩
  | 2, _ => ⟨⟨by decide, by decide +kernel, by decide +kernel⟩, by decide +kernel⟩
  | 3, _ => ⟨⟨by decide, by decide +kernel, by decide +kernel⟩, by decide +kernel⟩
  | 4, _ => ⟨⟨by decide, by decide +kernel, by decide +kernel⟩, by decide +kernel⟩
  | n + 5, h => absurd h (by omega)
def rInd : R2 := fun x y H Q => ∃ d : Nat, x = .str "  " ∧ y = .int (d : Int) ∧ d ≤ 4 ∧ Q (.str (indS d)) H
theorem op_ind {X : Cx} : OpR X (binaryOp .Mult) rInd := by
  intro pins s σ H x y v u Q I rx ry h
  obtain ⟨d, rfl, rfl, hd, q⟩ := h
  obtain ⟨t, rfl⟩ := rx
  obtain ⟨t', rfl⟩ := ry
  obtain ⟨h1, h2⟩ := mul_ind hd
  refine SB.mul h1 fun t2 tk => ?_
  rw [h2]
  exact ⟨.str (indS d), H, I.tok _, ⟨_, rfl⟩, q⟩
end ZT
namespace K05
open PySem PySem.Spec PyProof.Rows L2 ZX PM ZR ZT TL
abbrev sLLines : Stmt := top 56
def spLLines (K : PySem.W.Frag) (n : Nat) : Sp := fun vs H Q _ => ∃ (v : V) (d e : Nat) (b : List Rw), vs = [v, .int (d : Int)] ∧ BV K H v b ∧ depB b < n ∧ d + n ≤ 5 ∧ okB e b ∧ (∀ r ∈ rowsB b, smallR r) ∧ (rowsB b).length ≤ 1000 ∧
  ∀ l H', Same H H' → H l = none → H' l = some (.lst ((linB d b).map V.str)) → Q (.ref l) H'
/-- between two turns -/
def LMid (K : PySem.W.Frag) (v : V) (d : Nat) (l : Addr) (H0 : Hp) (xs : List Str) (y : Option V) (σ : L2.St) (H : Hp) : Prop := σ = [some v, some (.int (d : Int)), some (.ref l), y] ∧ Same H0 H ∧ H l = some (.lst (xs.map V.str))
section
variable {P : Program} {w : World} {K : PySem.W.Frag} {mg : Str → Option Value} {base : Heap}
theorem scLLines : FnScope ["_law_block_here", "_law_deep_here", "_law_found", "_law_row"] ["_law_block_here", "_law_deep_here"] (defScope sLLines) := ⟨rfl, rfl, rfl, by decide +kernel, rfl, by decide +kernel, by decide +kernel⟩
theorem ok_llines0 {f : Addr} {fd : FuncData} (k : Nat) : FnOk P w K mg base CX0 k f fd ["_law_block_here", "_law_deep_here"] (spLLines K 0) :=
  ⟨fun vs H Q E h => by
    obtain ⟨_, _, _, _, _, _, h, _⟩ := h
    exact absurd h (Nat.not_lt_zero _), fun A outer s H args us vs Q E hr e0 hb r h => by
    obtain ⟨_, _, _, _, _, _, h, _⟩ := h
    exact absurd h (Nat.not_lt_zero _)⟩
theorem ok_llines1 {n : Nat} {f : Addr} {fd : FuncData} (F : FnP K "_law_lines" sLLines f fd) (T : Bi mg) (C_row_text : Cal P w K mg base "_law_row_text" 1 ["_law_row"] (spLRowText K)) (C_lines : Cal P w K mg base "_law_lines" (n + 1) ["_law_block_here", "_law_deep_here"] (spLLines K n)) : FnOk P w K mg base CX0 (n + 2) f fd ["_law_block_here", "_law_deep_here"] (spLLines K (n + 1)) := by
  refine F.ok scLLines (fun vs H Q E h => ?_) (fun cdv A outer s H vs Q E hr h => ?_)
  · obtain ⟨v, d, e, b, rfl, _⟩ := h
    rfl
  · obtain ⟨v, d, e, b, rfl, tv, hd, hdn, ok, hs, hn, k⟩ := h
    obtain ⟨a, xs, rfl, hS, ht⟩ := tv.tupI
    have hr1 := hr.mono (show 1 ≤ n + 1 by omega)
    refine ⟨_, PSs.nox (pss_cons (ps_set (i := 2) scLLines.nd rfl (Or.inl rfl) (pe_lst pa_nil))
    (pss_cons (ps_for PassesOwn.never rfl (pi_tup (pv 0)) (pg_name (i := 3) scLLines.nd rfl (Or.inl rfl))
      (pss_one (ps_if (pt_cmpR op_eq (pe_ix ix_tup (pv 3) pe_int (fun _ _ => rfl)) pe_str (nomark _))
        (pss_cut (ps_expr (pe_bm PySem.F.plainAttrs_list PySem.F.slot_list_append PySem.F.type_list_append mt_append (pv 2) (pa_cons (pe_op op_add_str (pe_op op_ind pe_str (pv 1)) pe_str) pa_nil)))
          (pss_one (ps_expr (pe_bm PySem.F.plainAttrs_list PySem.F.slot_list_extend PySem.F.type_list_extend mt_extend (pv 2) (pa_cons (pe_op op_cat (pe_op op_cat (pcal C_lines hr rfl (pa_cons (pe_ix ix_tup (pv 3) pe_int (fun _ _ => rfl)) (pa_cons (pe_op op_add (pv 1) pe_int) pa_nil))) (pe_lst (pa_cons (pe_op op_add_str (pe_op op_ind pe_str (pv 1)) pe_str) pa_nil))) (pcal C_lines hr rfl (pa_cons (pe_ix ix_tup (pv 3) pe_int (fun _ _ => rfl)) (pa_cons (pe_op op_add (pv 1) pe_int) pa_nil)))) pa_nil)))))
        (pss_one (ps_if (pt_cmpR op_eq (pe_ix ix_tup (pv 3) pe_int (fun _ _ => rfl)) pe_str (nomark _))
          (pss_cut (ps_expr (pe_bm PySem.F.plainAttrs_list PySem.F.slot_list_append PySem.F.type_list_append mt_append (pv 2) (pa_cons (pe_op op_add_str (pe_op op_ind pe_str (pv 1)) pe_str) pa_nil)))
            (pss_one (ps_expr (pe_bm PySem.F.plainAttrs_list PySem.F.slot_list_extend PySem.F.type_list_extend mt_extend (pv 2) (pa_cons (pcal C_lines hr rfl (pa_cons (pe_ix ix_tup (pv 3) pe_int (fun _ _ => rfl)) (pa_cons (pe_op op_add (pv 1) pe_int) pa_nil))) pa_nil)))))
          (pss_one (ps_expr (pe_bm PySem.F.plainAttrs_list PySem.F.slot_list_append PySem.F.type_list_append mt_append (pv 2) (pa_cons (pe_op op_add_str (pe_op op_ind pe_str (pv 1)) (pcal C_row_text hr1 rfl (pa_cons (pv 3) pa_nil))) pa_nil)))))))))
    (pss_one (ps_ret (pv 2))))), ?_⟩
    have hd4 : d ≤ 4 := by omega
    have hil := ind_len d
    refine ⟨by decide, fun l nl => ?_⟩
    refine ⟨_, rfl, a, rfl, ⟨xs, (Pt.new nl).sq hS⟩, ?_⟩
    have hxl := ht.len
    rw [dB_eq, List.length_map] at hxl
    refine for_tup (xs := xs) (fun i σ' H' => ∃ y, LMid K (.ref a) d l H ((b.take i).flatMap (linR d)) y σ' H') ⟨_, rfl, same_new nl, upd_same⟩ ?_ ?_ ?_
    · rintro i σ' H' _ ⟨y, rfl, sm, hl⟩
      exact sm.pt.sq hS
    · rintro i x σ' H' hx ⟨y, rfl, sm, hl⟩
      obtain ⟨r, hr', tr⟩ := (ht.pt sm.pt).nthR hx
      have hrm : r ∈ b := List.mem_of_getElem? hr'
      have okr := okB_mem ok hrm
      have hll := linB_many b d
      have hle := fm_le1 (f := linR d) hr'
      rw [← linB_eq d b, List.length_append] at hle
      have hlen : (((b.take i).flatMap (linR d)).map V.str).length + (linR d r).length ≤ 3000 := by
        rw [List.length_map]
        omega
      have hdr := depB_mem hrm
      have nlH : ∀ {H2 : Hp}, Same H' H2 → H2 l = some (.lst (((b.take i).flatMap (linR d)).map V.str)) := fun s => s _ _ hl
      have fin : ∀ (H2 H3 : Hp) (ws : List V), Same H' H2 → H3 = upd H2 l (.lst (((b.take i).flatMap (linR d)).map V.str ++ ws)) → ws = (linR d r).map V.str → ∃ y, LMid K (.ref a) d l H ((b.take (i + 1)).flatMap (linR d)) y [some (.ref a), some (.int (d : Int)), some (.ref l), some x] H3 := fun H2 H3 ws s3 e1 e => ⟨_, rfl, by rw [e1]; exact (sm.trans s3).put nl, by rw [e1, upd_same, e, fm_take hr', List.map_append]⟩
      have inn : ∀ c ∈ inner r, depB c < n ∧ (∃ e2, okB e2 c) ∧ (∀ q ∈ rowsB c, smallR q) ∧ (rowsB c).length ≤ 1000 := fun c hc => by
        have h1 := dep_inner hc
        have h2 := Nat.le_trans (rows_lenI hc) (rows_lenR hrm)
        exact ⟨by omega, ⟨_, ok_inner okr hc⟩, fun q hq => hs q (rows_mem hrm (rows_inner hc hq)), by omega⟩
      obtain ⟨ra, tl_, rfl, hR, hrt⟩ := tr.rowI
      have pln : plainR r = true → linR d r = [indS d ++ txtR r] → ∀ {D : Ends}, D.nx = (fun σ' H' => ∃ y, LMid K (V.ref a) d l H ((b.take (i + 1)).flatMap (linR d)) y σ' H') → (tDrop (tBM (cxOf CX0 P w K mg base ["_law_block_here", "_law_deep_here", "_law_found", "_law_row"] "_law_lines" (defScope sLLines) f cdv A outer s H E).nox.K "list" rAppend (tVar 2) (tCons (tOp (fun x y H Q => ∃ i j, x = V.str i ∧ y = V.str j ∧ i.length + j.length ≤ sizeLine ∧ Q (V.str (i ++ j)) H) (tOp rInd (tC (V.str (Str.ofString "  "))) (tVar 1)) (tCall (spLRowText K) [] E0 (tCons (tVar 3) tNil))) tNil))) D [some (.ref a), some (.int (d : Int)), some (.ref l), some (.ref ra)] H' := fun pl el D eD => by
        have sr := hs r (rows_mem hrm (by rw [rowsR_eq]; exact List.mem_cons_self))
        have htl := txt_len r okr sr
        refine ⟨_, rfl, .inl ⟨rfl, _, SqL.of hl⟩, _, rfl, d, rfl, rfl, hd4, _, rfl, .ref ra, e, r, rfl, tr, okr, sr, pl, fun H3 s3 => ?_⟩
        refine ⟨_, _, rfl, rfl, lnS (n := 200) (by omega), l, _, _, rfl, rfl, s3 _ _ hl, Nat.lt_of_le_of_lt (show _ ≤ 3000 by omega) (by decide), ?_⟩
        rw [eD]
        exact fin H3 _ _ s3 rfl (by rw [el]; rfl)
      cases r with
      | either b1 b2 =>
        obtain ⟨d1, ⟨e1, o1⟩, s1, n1⟩ := inn b1 List.mem_cons_self
        obtain ⟨d2, ⟨e2, o2⟩, s2, n2⟩ := inn b2 (List.mem_cons_of_mem _ List.mem_cons_self)
        obtain ⟨v1, v2, rfl, t1, t2⟩ := hrt.two
        have el : linR d (.either b1 b2) = (indS d ++ ("either" : Str)) :: (linB (d + 1) b1 ++ (indS d ++ ("or" : Str)) :: linB (d + 1) b2) := by rw [linR]
        have h6 : ("either" : Str).length = 6 := by decide +kernel
        have h2 : ("or" : Str).length = 2 := by decide +kernel
        rw [el, List.length_cons, List.length_append, List.length_cons] at hlen
        refine ⟨_, rfl, _, _, _, _, rfl, rfl, hR, at0, rfl, _, rfl, ifD rfl ?_⟩
        refine ⟨fun σ2 H2 => σ2 = [some (.ref a), some (.int (d : Int)), some (.ref l), some (.ref ra)] ∧ H2 = upd H' l (.lst (((b.take i).flatMap (linR d)).map V.str ++ [V.str (indS d ++ ("either" : Str))])), ?_, ?_⟩
        · refine ⟨_, rfl, .inl ⟨rfl, _, SqL.of hl⟩, _, rfl, d, rfl, rfl, hd4, _, _, rfl, rfl, lnS (n := 200) (by rw [hil, h6]; omega), l, _, _, rfl, rfl, hl, Nat.lt_of_le_of_lt (show _ ≤ 3000 by omega) (by decide), rfl, rfl⟩
        rintro σ2 H2 ⟨rfl, hH2⟩
        have pt2 : Pt H' H2 := by rw [hH2]; exact Pt.lst hl
        have hl2 : H2 l = some (.lst (((b.take i).flatMap (linR d)).map V.str ++ [V.str (indS d ++ ("either" : Str))])) := by rw [hH2, upd_same]
        have none2 : ∀ {z : Addr}, H2 z = none → H' z = none := fun {z} h => by
          by_cases hz : z = l
          · rw [hz, hl2] at h
            cases h
          · rw [hH2, upd_ne hz] at h
            exact h
        refine ⟨_, rfl, .inl ⟨rfl, _, SqL.of hl2⟩, _, rfl, _, _, _, _, rfl, rfl, pt2.sq hR, rfl, _, rfl, _, _, rfl, rfl, v1, d + 1, e1, b1, rfl, Tv.pt pt2 t1, d1, by omega, o1, s1, n1, fun l1 H3 s3 nl1 hl1 => ?_⟩
        refine ⟨_, rfl, d, rfl, rfl, hd4, _, _, rfl, rfl, lnS (n := 200) (by rw [hil, h2]; omega), by show 1 ≤ sizeLine; decide, fun l2 nl2 => ?_⟩
        have s4 := same_new (o := .lst [V.str (indS d ++ ("or" : Str))]) nl2
        refine ⟨l1, l2, _, _, rfl, rfl, s4 _ _ hl1, upd_same, lnB (n := 3000) (by rw [List.length_map, List.length_singleton]; omega), fun l3 nl3 => ?_⟩
        have s5 := s4.trans (same_new (o := .lst ((linB (d + 1) b1).map V.str ++ [V.str (indS d ++ ("or" : Str))])) nl3)
        have s25 := s3.trans s5
        have pt5 := pt2.trans s25.pt
        refine ⟨_, rfl, _, _, _, _, rfl, rfl, pt5.sq hR, rfl, _, rfl, _, _, rfl, rfl, v2, d + 1, e2, b2, rfl, Tv.pt pt5 t2, d2, by omega, o2, s2, n2, fun l4 H6 s6 nl4 hl4 => ?_⟩
        refine ⟨l3, l4, _, _, rfl, rfl, s6 _ _ upd_same, hl4, lnB (n := 3000) (by rw [List.length_append, List.length_map, List.length_singleton, List.length_map]; omega), fun l5 nl5 => ?_⟩
        have s7 := (s25.trans s6).trans (same_new (o := .lst (((linB (d + 1) b1).map V.str ++ [V.str (indS d ++ ("or" : Str))]) ++ (linB (d + 1) b2).map V.str)) nl5)
        refine ⟨l, l5, _, _, rfl, rfl, s7 _ _ hl2, upd_same, lnB (n := 3000) (by simp only [List.length_append, List.length_map, List.length_singleton] at hlen ⊢; omega), ?_⟩
        refine ⟨_, rfl, fun z o h => ?_, ?_⟩
        · have nz : z ≠ l := fun e => by
            rw [e, nl] at h
            cases h
          rw [upd_ne nz]
          refine s7 _ _ ?_
          rw [hH2, upd_ne nz]
          exact sm _ _ h
        · rw [upd_same, fm_take hr', el]
          simp
      | again b1 =>
        obtain ⟨d1, ⟨e1, o1⟩, s1, n1⟩ := inn b1 List.mem_cons_self
        obtain ⟨v1, rfl, t1⟩ := hrt.one
        have el : linR d (.again b1) = (indS d ++ ("again" : Str)) :: linB (d + 1) b1 := by rw [linR]
        have h5 : ("again" : Str).length = 5 := by decide +kernel
        rw [el, List.length_cons] at hlen
        refine ⟨_, rfl, _, _, _, _, rfl, rfl, hR, at0, rfl, _, rfl, ifDF (neS (a := "again") (b := "either") (by decide +kernel)) ?_⟩
        refine ⟨_, rfl, _, _, _, _, rfl, rfl, hR, at0, rfl, _, rfl, ifD rfl ?_⟩
        refine ⟨fun σ2 H2 => σ2 = [some (.ref a), some (.int (d : Int)), some (.ref l), some (.ref ra)] ∧ H2 = upd H' l (.lst (((b.take i).flatMap (linR d)).map V.str ++ [V.str (indS d ++ ("again" : Str))])), ?_, ?_⟩
        · refine ⟨_, rfl, .inl ⟨rfl, _, SqL.of hl⟩, _, rfl, d, rfl, rfl, hd4, _, _, rfl, rfl, lnS (n := 200) (by rw [hil, h5]; omega), l, _, _, rfl, rfl, hl, Nat.lt_of_le_of_lt (show _ ≤ 3000 by omega) (by decide), rfl, rfl⟩
        rintro σ2 H2 ⟨rfl, hH2⟩
        have pt2 : Pt H' H2 := by rw [hH2]; exact Pt.lst hl
        have hl2 : H2 l = some (.lst (((b.take i).flatMap (linR d)).map V.str ++ [V.str (indS d ++ ("again" : Str))])) := by rw [hH2, upd_same]
        refine ⟨_, rfl, .inl ⟨rfl, _, SqL.of hl2⟩, _, rfl, _, _, _, _, rfl, rfl, pt2.sq hR, rfl, _, rfl, _, _, rfl, rfl, v1, d + 1, e1, b1, rfl, Tv.pt pt2 t1, d1, by omega, o1, s1, n1, fun l1 H3 s3 nl1 hl1 => ?_⟩
        refine ⟨l, l1, _, _, rfl, rfl, s3 _ _ hl2, hl1, lnB (n := 3000) (by simp only [List.length_append, List.length_map, List.length_singleton] at hlen ⊢; omega), ?_⟩
        refine ⟨_, rfl, fun z o h => ?_, ?_⟩
        · have nz : z ≠ l := fun e => by
            rw [e, nl] at h
            cases h
          rw [upd_ne nz]
          refine s3 _ _ ?_
          rw [hH2, upd_ne nz]
          exact sm _ _ h
        · rw [upd_same, fm_take hr', el]
          simp
      | note x o ps =>
        refine ⟨_, rfl, _, _, _, _, rfl, rfl, hR, at0, rfl, _, rfl, ifDF (neS (a := "note") (b := "either") (by decide +kernel)) ?_⟩
        refine ⟨_, rfl, _, _, _, _, rfl, rfl, hR, at0, rfl, _, rfl, ifDF (neS (a := "note") (b := "again") (by decide +kernel)) ?_⟩
        exact pln rfl (by rw [linR]) rfl
      | copy x o =>
        refine ⟨_, rfl, _, _, _, _, rfl, rfl, hR, at0, rfl, _, rfl, ifDF (neS (a := "copy") (b := "either") (by decide +kernel)) ?_⟩
        refine ⟨_, rfl, _, _, _, _, rfl, rfl, hR, at0, rfl, _, rfl, ifDF (neS (a := "copy") (b := "again") (by decide +kernel)) ?_⟩
        exact pln rfl (by rw [linR]) rfl
      | give x o =>
        refine ⟨_, rfl, _, _, _, _, rfl, rfl, hR, at0, rfl, _, rfl, ifDF (neS (a := "give") (b := "either") (by decide +kernel)) ?_⟩
        refine ⟨_, rfl, _, _, _, _, rfl, rfl, hR, at0, rfl, _, rfl, ifDF (neS (a := "give") (b := "again") (by decide +kernel)) ?_⟩
        exact pln rfl (by rw [linR]) rfl
      | ask x =>
        refine ⟨_, rfl, _, _, _, _, rfl, rfl, hR, at0, rfl, _, rfl, ifDF (neS (a := "ask") (b := "either") (by decide +kernel)) ?_⟩
        refine ⟨_, rfl, _, _, _, _, rfl, rfl, hR, at0, rfl, _, rfl, ifDF (neS (a := "ask") (b := "again") (by decide +kernel)) ?_⟩
        exact pln rfl (by rw [linR]) rfl
      | prt x =>
        refine ⟨_, rfl, _, _, _, _, rfl, rfl, hR, at0, rfl, _, rfl, ifDF (neS (a := "print") (b := "either") (by decide +kernel)) ?_⟩
        refine ⟨_, rfl, _, _, _, _, rfl, rfl, hR, at0, rfl, _, rfl, ifDF (neS (a := "print") (b := "again") (by decide +kernel)) ?_⟩
        exact pln rfl (by rw [linR]) rfl
    · rintro σ' H' ⟨y, rfl, sm, hl⟩
      refine ⟨_, rfl, k l H' sm nl ?_⟩
      rw [hl, hxl, List.take_length, linB_eq]
end
end K05
set_option Elab.async false
set_option linter.all false
set_option maxRecDepth 100000
set_option maxHeartbeats 4000000
/-! A sign drawn out of a text; spaces, many. -/
namespace ZT
open PySem PySem.Spec PyProof.Rows L2 ZX PM TL
theorem fold_ind : ∀ (n : Nat) (acc : Array Nat), (List.replicate n ("  " : Str).cps).foldl (· ++ ·) acc = acc ++ (indS n).cps
  | 0, acc => by
    show acc = acc ++ #[]
    simp
  | n + 1, acc => by
    rw [List.replicate_succ, List.foldl_cons, fold_ind n]
    show acc ++ ("  " : Str).cps ++ (indS n).cps = acc ++ (("  " : Str).cps ++ (indS n).cps)
    rw [Array.append_assoc]
theorem mul_ind' : ∀ d : Nat, Txt.mul ("  " : Str) (d : Int) = indS d
  | 0 => by decide +kernel
  | 1 => by decide +kernel
  | n + 2 => by
    have e1 : ¬ (((n + 2 : Nat) : Int) < 1) := by omega
    have e2 : ((((n + 2 : Nat) : Int)) == 1) = false := by
      rw [beq_eq_false_iff_ne]
      omega
    have e3 : (("  " : Str).length == 0) = false := by decide +kernel
    unfold Txt.mul
    rw [if_neg e1, e2, e3]
    show (⟨(List.replicate (((n + 2 : Nat) : Int)).toNat ("  " : Str).cps).foldl (· ++ ·) #[]⟩ : Str) = _
    rw [fold_ind, Int.toNat_natCast]
    have : (#[] : Array Nat) ++ (indS (n + 2)).cps = (indS (n + 2)).cps := by simp
    rw [this]
theorem mul_indG {d : Nat} (h : d < 200) : MulOk ("  " : Str) (d : Int) ∧ Txt.mul ("  " : Str) (d : Int) = indS d := by
  refine ⟨⟨?_, fun h1 _ => ?_, fun h1 _ => ?_⟩, mul_ind' d⟩
  · have e1 : decide ((d : Int) < -(2 ^ 63 : Int)) = false := decide_eq_false (by omega)
    have e2 : decide ((d : Int) ≥ 2 ^ 63) = false := decide_eq_false (by omega)
    rw [e1, e2, Bool.or_false]
  · have e : ((("  " : Str).length : Nat) : Int) = 2 := by decide +kernel
    rw [e]
    have h2 : (2 : Int) * (d : Int) ≤ 2 ^ 63 - 1 := by omega
    have h3 := (Int.le_ediv_iff_mul_le (by omega : (0 : Int) < (d : Int))).mpr h2
    omega
  · have e : ("  " : Str).length = 2 := by decide +kernel
    rw [e]
    simp only [Int.toNat_natCast]
    show decide (2 * d > sizeLine) = false
    exact decide_eq_false (Nat.not_lt.mpr (Nat.le_trans (by omega : 2 * d ≤ 400) (by decide)))
def rIndG : R2 := fun x y H Q => ∃ d : Nat, x = .str "  " ∧ y = .int (d : Int) ∧ d < 200 ∧ Q (.str (indS d)) H
theorem op_indG {X : Cx} : OpR X (binaryOp .Mult) rIndG := by
  intro pins s σ H x y v u Q I rx ry h
  obtain ⟨d, rfl, rfl, hd, q⟩ := h
  obtain ⟨t, rfl⟩ := rx
  obtain ⟨t', rfl⟩ := ry
  obtain ⟨h1, h2⟩ := mul_indG hd
  refine SB.mul h1 fun t2 tk => ?_
  rw [h2]
  exact ⟨.str (indS d), H, I.tok _, ⟨_, rfl⟩, q⟩
end ZT
namespace K05
open PySem PySem.Spec PyProof.Rows L2 ZX PM ZR ZT TL
def spAnyS : Sp := fun vs H Q _ => ∃ (p c : Addr) (x : Str), vs = [.ref p, .str x] ∧ HandAt H p c ∧ 0 < x.length ∧ x.length ≤ 1000 ∧ ∀ (y : Str) (H' : Hp), y.length = 1 → HandAt H' p c → Ch p H H' → Q (.str y) H'
section
variable {P : Program} {w : World} {K : PySem.W.Frag} {mg : Str → Option Value} {base : Heap}
theorem ok_anyS {f : Addr} {fd : FuncData} (F : FnP K "_law_any" sAny f fd) (T : Bi mg) (C_draw : Cal P w K mg base "_law_draw" 1 ["_law_hand_here", "_law_many"] spDraw) : FnOk P w K mg base CX0 2 f fd ["_law_hand_here", "_law_things"] spAnyS := by
  refine F.ok scAny (fun vs H Q E h => ?_) (fun cdv A outer s H vs Q E hr h => ?_)
  · obtain ⟨p, c, x, rfl, _⟩ := h
    rfl
  · obtain ⟨p, c, x, rfl, hh, hx, hl, k⟩ := h
    refine ⟨_, PSs.nox (pss_one (ps_ret (pe_ix ix_seq (pv 1) (pcal C_draw hr rfl (pa_cons (pv 0) (pa_cons (pe_callB call_len_str (by rfl) T.b_len (by decide +kernel) (pa_cons (pv 1) pa_nil)) pa_nil))) (fun _ _ => rfl)))), ?_⟩
    refine ⟨_, rfl, _, rfl, _, rfl, x, rfl, Nat.le_trans hl (by decide), p, c, (x.length : Int), rfl, hh, by omega, by omega, fun d H' d0 d1 hh' ch => ?_⟩
    have hln : x.cps.toList.length = x.length := by simp [Str.length]
    have hd : d.toNat < x.cps.toList.length := by omega
    have hat : atI x.cps.toList d = some x.cps.toList[d.toNat] := by
      have e : ((d.toNat : Nat) : Int) = d := Int.toNat_of_nonneg d0
      have h := atI_nat (xs := x.cps.toList) (List.getElem?_eq_getElem hd)
      rw [e] at h
      exact h
    exact .inr (.inr ⟨x, d, _, rfl, rfl, Nat.le_trans hl (by decide), hat, k _ H' rfl hh' ch⟩)
end
end K05
set_option Elab.async false
set_option linter.all false
set_option maxRecDepth 100000
set_option maxHeartbeats 4000000
/-! _law_nested. -/
namespace K05
open PySem PySem.Spec PyProof.Rows L2 ZX PM ZR ZT TL
abbrev sLNested : Stmt := top 64
def spLNested : Sp := fun vs H Q _ => ∃ p c : Addr, vs = [.ref p] ∧ HandAt H p c ∧ ∀ (x : Str) (H' : Hp), x.length ≤ 36000 → HandAt H' p c → Q (.str x) H'
/-- texts, none longer -/
theorem strs_len {α : Type} {n : Nat} : ∀ {as : List α} {ys : List V}, All2 (fun _ y => ∃ x : Str, x.length ≤ n ∧ y = V.str x) as ys → ∃ ps : List Str, ys = ps.map V.str ∧ ∀ y ∈ ps, y.length ≤ n
  | _, _, .nil => ⟨[], rfl, fun _ h => nomatch h⟩
  | _, _, .cons ⟨x, hx, e⟩ t => by
    obtain ⟨ps, rfl, h⟩ := strs_len t
    subst e
    exact ⟨x :: ps, rfl, fun y hy => (List.mem_cons.mp hy).elim (fun e => e ▸ hx) (h y)⟩
theorem sum_len {m : Nat} : ∀ l : List Str, (∀ t ∈ l, t.length ≤ m) → ((l.map fun t => t ++ lfS).map (·.length)).sum ≤ l.length * (m + 1)
  | [], _ => Nat.zero_le _
  | t :: l, h => by
    have a1 := h t List.mem_cons_self
    have a2 := sum_len l fun q hq => h q (List.mem_cons_of_mem _ hq)
    have h1n : lfS.length = 1 := by decide +kernel
    rw [List.map_cons, List.map_cons, List.sum_cons, len_app, h1n, List.length_cons, Nat.succ_mul]
    omega
section
variable {P : Program} {w : World} {K : PySem.W.Frag} {mg : Str → Option Value} {base : Heap}
abbrev NN : List Str := ["_law_hand_here", "_law_many", "_law_lines_here", "_law_at", "_law_line"]
theorem scLNested : FnScope NN ["_law_hand_here"] (defScope sLNested) := ⟨rfl, rfl, rfl, by decide +kernel, rfl, by decide +kernel, by decide +kernel⟩
theorem ok_lnested {f : Addr} {fd : FuncData} (F : FnP K "_law_nested" sLNested f fd) (T : Bi mg) (C_draw : Cal P w K mg base "_law_draw" 1 ["_law_hand_here", "_law_many"] spDraw) (C_any : Cal P w K mg base "_law_any" 2 ["_law_hand_here", "_law_things"] (spAny K)) : FnOk P w K mg base CX0 3 f fd ["_law_hand_here"] spLNested := by
  refine F.ok scLNested (fun vs H Q E h => ?_) (fun cdv A outer s H vs Q E hr h => ?_)
  · obtain ⟨p, c, rfl, _⟩ := h
    rfl
  · obtain ⟨p, c, rfl, hh, k⟩ := h
    have hr1 := hr.mono (show 1 ≤ 2 by decide)
    refine ⟨_, PSs.nox (pss_cut (ps_set (i := 1) scLNested.nd rfl (Or.inl rfl) (pe_op op_add pe_int (pcal C_draw hr1 rfl (pa_cons (pv 0) (pa_cons pe_int pa_nil)))))
    (pss_cut (ps_setLcS (i := 2) (own := [("_law_at", 3)]) (g := gName 3) (tt := tYes) rfl scLNested.nd rfl rfl (sw_true rfl rfl rfl (by decide +kernel)) (pi_range1 rfl T.b_range (pa_cons (pv 1) pa_nil)) (blkOk_by (N := NN) (sc := defScope sLNested) (by decide +kernel)) (fun _ _ _ _ _ => (pg_name (i := 3) scLNested.nd rfl (Or.inl rfl))) (fun _ _ _ _ _ => pts_nil) (fun _ _ _ _ _ => (pe_op op_add_str (pe_op op_indG pe_str (pv 3)) (pcal C_any hr rfl (pa_cons (pv 0) (pa_cons (pe_lst (pa_cons pe_str (pa_cons pe_str (pa_cons pe_str pa_nil)))) pa_nil))))))
    (pss_cut (ps_if (pt_cmpR op_eq (pcal C_draw hr1 rfl (pa_cons (pv 0) (pa_cons pe_int pa_nil))) pe_int (nomark _)) (pss_one (ps_setLcS (i := 2) (own := [("_law_at", 3)]) (g := gName 3) (tt := tYes) rfl scLNested.nd rfl rfl (sw_true rfl rfl rfl (by decide +kernel)) (pi_range1 rfl T.b_range (pa_cons (pv 1) pa_nil)) (blkOk_by (N := NN) (sc := defScope sLNested) (by decide +kernel)) (fun _ _ _ _ _ => (pg_name (i := 3) scLNested.nd rfl (Or.inl rfl))) (fun _ _ _ _ _ => pts_nil) (fun _ _ _ _ _ => (pe_op op_add_str (pe_op op_indG pe_str (pv 3)) pe_str)))) pss_nil)
    (pss_one (ps_ret (pe_join pe_str (pe_lcS (own := [("_law_line", 4)]) (g := gName 4) (tt := tYes) (by rfl) scLNested.nd (pi_list (pe_op op_cat (pv 2) (pe_lst (pa_cons (pe_op op_add_str (pe_op op_indG pe_str (pcal C_draw hr1 rfl (pa_cons (pv 0) (pa_cons (pe_op op_add (pv 1) pe_int) pa_nil)))) pe_str) pa_nil)))) (blkOk_by (N := NN) (sc := defScope sLNested) (by decide +kernel)) (fun _ _ _ _ _ => (pg_name (i := 4) scLNested.nd rfl (Or.inl rfl))) (fun _ _ _ _ _ => pts_nil) (fun _ _ _ _ _ => (pe_op op_add_str (pv 4) pe_str))))))))), ?_⟩
    have nep : ∀ {G : Hp} {z : Addr}, HandAt G p c → G z = none → z ≠ p := fun hg n => by
      obtain ⟨o, e⟩ := hg.some
      exact (ne_of_none e n).symm
    have h5n : ("again" : Str).length = 5 := by decide +kernel
    have h1n : lfS.length = 1 := by decide +kernel
    have h0n : ("" : Str).length = 0 := by decide +kernel
    have han : ("ask x" : Str).length = 5 := by decide +kernel
    refine ⟨fun σ' H' => ∃ m : Nat, σ' = [some (.ref p), some (.int (m : Int)), none, none, none] ∧ 2 ≤ m ∧ m ≤ 131 ∧ HandAt H' p c, ?_, ?_⟩
    · refine ⟨_, rfl, p, c, 130, rfl, hh, by decide, by decide, fun d H2 d0 d1 hh2 ch => ?_⟩
      have e : (((2 + d).toNat : Nat) : Int) = 2 + d := Int.toNat_of_nonneg (by omega)
      refine ⟨_, _, rfl, rfl, (2 + d).toNat, ?_, by omega, by omega, hh2⟩
      rw [e]
      rfl
    rintro σ1 H1 ⟨m, rfl, m2, m131, hh1⟩
    let LS : L2.St → Hp → Prop := fun σ' H' => ∃ (l : Addr) (ps : List Str), σ' = [some (.ref p), some (.int (m : Int)), some (.ref l), none, none] ∧ HandAt H' p c ∧ l ≠ p ∧ H' l = some (.lst (ps.map V.str)) ∧ ps.length = m ∧ ∀ t ∈ ps, t.length ≤ 268
    have h6 : ∀ t ∈ [("again" : Str), "again", "either"], t.length ≤ 6 := by decide +kernel
    refine ⟨LS, ?_, ?_⟩
    · refine lc_into ?_
      refine ⟨_, rfl, _, rfl, by omega, by omega, ?_⟩
      refine lc_overI (p := some p) (as := List.range (m : Int).toNat) (Rel := fun _ _ y => ∃ x : Str, x.length ≤ 268 ∧ y = V.str x) (fun H => HandAt H p c) it_range ?_ (fun _ _ _ _ _ h => h) (fun a e => by cases e; exact hh1.some) ?_ (fun D hD => hh1.new hD) (fun D H' o hD h => h.away hh1 hD) (fun _ _ _ _ => trivial) ?_ ?_
      · rw [List.length_map]
      · rw [List.length_map, List.length_range]
        exact Nat.lt_of_lt_of_le (show (m : Int).toNat < 132 by omega) (by decide)
      · intro i z e hz he H5 kq pt hh5 R kR
        obtain ⟨j, hj, rfl⟩ : ∃ j : Nat, j < 132 ∧ z = V.int (j : Int) := by
          obtain ⟨j, hj, e⟩ := List.mem_map.mp (List.mem_of_getElem? hz)
          refine ⟨j, by have := List.mem_range.mp hj; omega, ?_⟩
          rw [← e]
          first | rfl | simp
        refine ⟨rfl, _, rfl, j, rfl, rfl, by omega, _, rfl, by show 3 ≤ sizeLine; decide, fun l nl => ?_⟩
        refine any_of (E := E0) (xs := [("again" : Str), "again", "either"]) (hh5.new nl) (nep hh5 nl) upd_same (by simp) (by show 3 < 1000; decide) fun x H6 hx hh6 k6 => ?_
        have k56 := ((Kp.refl p H5).new nl).trans k6
        have hx6 := h6 x hx
        exact ⟨_, _, rfl, rfl, Nat.le_trans (show _ ≤ 1000 by rw [ind_len]; omega) (by decide), kR _ _ (Kp.kq k56) (hh5.pt k56) hh6 ⟨indS j ++ x, by rw [len_app, ind_len]; omega, rfl⟩⟩
      · intro D ys H5 kq pt hh5 nD hD all
        obtain ⟨ps, rfl, hps⟩ := strs_len all
        refine ⟨D, ps, rfl, hh5, nep hh1 nD, hD, ?_, hps⟩
        have := all.len
        rw [List.length_range, List.length_map] at this
        omega
    rintro σ2 H2 ⟨l, ps, rfl, hh2, nlp, hl, hpl, hps⟩
    refine ⟨LS, ?_, ?_⟩
    · refine ⟨_, rfl, p, c, 2, rfl, hh2, by decide, by decide, fun d H4 d0 d1 hh4 ch => ?_⟩
      refine ⟨rfl, _, rfl, ?_⟩
      refine ite2 (fun _ => ?_) (fun _ => ⟨l, ps, rfl, hh4, nlp, by rw [ch l nlp]; exact hl, hpl, hps⟩)
      refine lc_into ?_
      refine ⟨_, rfl, _, rfl, by omega, by omega, ?_⟩
      refine lc_overA (p := none) (as := List.range (m : Int).toNat) (Rel := fun _ _ y => ∃ x : Str, x.length ≤ 268 ∧ y = V.str x) it_range (by rw [List.length_map]) (fun _ _ _ _ _ h => h) (fun _ h => nomatch h) (by rw [List.length_map, List.length_range]; exact Nat.lt_of_lt_of_le (show (m : Int).toNat < 132 by omega) (by decide)) (fun _ _ _ => trivial) ?_ ?_
      · intro i z e hz he H5 kq pt R kR
        obtain ⟨j, hj, rfl⟩ : ∃ j : Nat, j < 132 ∧ z = V.int (j : Int) := by
          obtain ⟨j, hj, e⟩ := List.mem_map.mp (List.mem_of_getElem? hz)
          refine ⟨j, by have := List.mem_range.mp hj; omega, ?_⟩
          rw [← e]
          first | rfl | simp
        exact ⟨rfl, _, rfl, j, rfl, rfl, by omega, _, _, rfl, rfl, Nat.le_trans (show _ ≤ 1000 by rw [ind_len, h5n]; omega) (by decide), kR _ _ Kq.refl (Pt.refl _) ⟨indS j ++ ("again" : Str), by rw [len_app, ind_len, h5n]; omega, rfl⟩⟩
      · intro D ys H5 kq pt nD hD all
        obtain ⟨ps, rfl, hps⟩ := strs_len all
        refine ⟨D, ps, rfl, hh4.kp kq.same, nep hh4 nD, hD, ?_, hps⟩
        have := all.len
        rw [List.length_range, List.length_map] at this
        omega
    rintro σ3 H3 ⟨l, ps, rfl, hh3, nlp, hl, hpl, hps⟩
    refine ⟨⟨_, rfl⟩, lc_into ?_⟩
    refine ⟨_, rfl, _, rfl, _, rfl, _, _, rfl, rfl, p, c, (m : Int) + 2, rfl, hh3, by omega, by omega, fun d H4 d0 d1 hh4 ch => ?_⟩
    have ed : ((d.toNat : Nat) : Int) = d := Int.toNat_of_nonneg d0
    have hd : d.toNat ≤ 132 := by omega
    refine ⟨d.toNat, rfl, by rw [ed], by omega, _, _, rfl, rfl, Nat.le_trans (show _ ≤ 1000 by rw [ind_len, han]; omega) (by decide), by show 1 ≤ sizeLine; decide, fun q nq => ?_⟩
    have hl4 : H4 l = some (.lst (ps.map V.str)) := by rw [ch l nlp]; exact hl
    have nql : l ≠ q := ne_of_none hl4 nq
    refine ⟨l, q, _, _, rfl, rfl, by rw [upd_ne nql]; exact hl4, upd_same, Nat.le_trans (show _ ≤ 1000 by rw [List.length_map]; show ps.length + 1 ≤ 1000; omega) (by decide), fun r nr => ?_⟩
    obtain ⟨L, hL⟩ : ∃ L, L = ps ++ [indS d.toNat ++ ("ask x" : Str)] := ⟨_, rfl⟩
    have hz2 : ∀ t ∈ L, t.length ≤ 270 := by
      intro t ht
      rw [hL] at ht
      rcases List.mem_append.mp ht with h | h
      · have := hps t h
        omega
      · rw [List.mem_singleton.mp h, len_app, ind_len, han]
        omega
    have hLl : L.length ≤ 132 := by
      rw [hL, List.length_append]
      show ps.length + 1 ≤ 132
      omega
    have eL : ps.map V.str ++ [V.str (indS d.toNat ++ ("ask x" : Str))] = L.map V.str := by rw [hL, List.map_append]; rfl
    rw [eL]
    refine ⟨r, rfl, ⟨_, SqL.of upd_same⟩, ?_⟩
    refine lc_overA (p := none) (as := L) (Rel := fun _ t y => y = .str (t ++ lfS)) it_list (by rw [List.length_map]) (fun _ _ _ _ _ h => h) (fun _ h => nomatch h) (by rw [List.length_map]; exact Nat.lt_of_le_of_lt (show L.length ≤ 2000 by omega) (by decide)) (fun H' kq _ => SqL.of (kq.same _ _ upd_same)) ?_ ?_
    · intro i y t hy ht' H6 kq pt R k
      rw [List.getElem?_map, ht'] at hy
      cases hy
      have := hz2 t (List.mem_of_getElem? ht')
      exact ⟨rfl, _, rfl, t, _, rfl, rfl, Nat.le_trans (show _ ≤ 1000 by rw [show (Str.ofString "\n").length = 1 from h1n]; omega) (by decide), k _ _ Kq.refl (Pt.refl _) rfl⟩
    · intro D2 ys2 H6 kq pt nD2 hD2 all2
      have e := All2.map all2
      have hs := sum_len L hz2
      have hm : L.length * (270 + 1) ≤ 132 * 271 := Nat.mul_le_mul hLl (Nat.le_refl _)
      have hsm : ((L.map fun t => t ++ lfS).map (·.length)).sum + (L.map fun t => t ++ lfS).length * ("" : Str).length ≤ 36000 := by
        rw [h0n, Nat.mul_zero, Nat.add_zero]
        omega
      refine ⟨_, D2, L.map (fun t => t ++ lfS), rfl, rfl, .inl (SqL.of (by rw [hD2, e, List.map_map]; rfl)), Nat.le_trans hsm (by decide), k _ _ (Nat.le_trans (jn_len _ _) hsm) ?_⟩
      exact (hh4.kp (((same_new nq).trans (same_new nr)).trans kq.same))
end
end K05
set_option Elab.async false
set_option linter.all false
set_option maxRecDepth 100000
set_option maxHeartbeats 4000000
/-! What a text's lines weigh; nines. -/
namespace ZT
open PySem PySem.Spec PyProof.Rows L2 ZX PM TL
/-- how much lines weigh: their signs and a line feed each -/
def wtL : List Str → Nat
  | [] => 0
  | l :: ls => l.length + 1 + wtL ls
theorem wt_app : ∀ a b : List Str, wtL (a ++ b) = wtL a + wtL b
  | [], b => (Nat.zero_add _).symm
  | l :: a, b => by
    show l.length + 1 + wtL (a ++ b) = l.length + 1 + wtL a + wtL b
    rw [wt_app a b]
    omega
theorem wt_rev : ∀ a : List Str, wtL a.reverse = wtL a
  | [] => rfl
  | l :: a => by
    rw [List.reverse_cons, wt_app, wt_rev a]
    show wtL a + (l.length + 1 + 0) = l.length + 1 + wtL a
    omega
theorem wt_take : ∀ (n : Nat) (a : List Str), wtL (a.take n) ≤ wtL a
  | 0, _ => Nat.zero_le _
  | _ + 1, [] => Nat.le_refl _
  | n + 1, l :: a => Nat.add_le_add_left (wt_take n a) _
theorem wt_drop : ∀ (n : Nat) (a : List Str), wtL (a.drop n) ≤ wtL a
  | 0, _ => Nat.le_refl _
  | _ + 1, [] => Nat.le_refl _
  | n + 1, l :: a => Nat.le_trans (wt_drop n a) (Nat.le_add_left _ _)
theorem wt_many : ∀ a : List Str, a.length ≤ wtL a
  | [] => Nat.le_refl _
  | l :: a => by
    have := wt_many a
    show a.length + 1 ≤ l.length + 1 + wtL a
    omega
theorem wt_mem : ∀ {a : List Str} {x : Str}, x ∈ a → x.length + 1 ≤ wtL a
  | l :: a, x, h => by
    show x.length + 1 ≤ l.length + 1 + wtL a
    rcases List.mem_cons.mp h with rfl | h
    · omega
    · have := wt_mem h
      omega
/-- a piece of a list of texts -/
theorem cut_map (ls : List Str) (lo hi : Option Int) : ∃ ms : List Str, cutV (ls.map V.str) lo hi = ms.map V.str ∧ wtL ms ≤ wtL ls ∧ ms.length ≤ ls.length := by
  refine ⟨(ls.drop (HT.sIx (ls.map V.str).length 0 lo)).take (HT.sIx (ls.map V.str).length (ls.map V.str).length hi - HT.sIx (ls.map V.str).length 0 lo), ?_, Nat.le_trans (wt_take _ _) (wt_drop _ _), ?_⟩
  · rw [List.map_take, List.map_drop]
    rfl
  · rw [List.length_take, List.length_drop]
    omega
theorem join_wt (ms : List Str) : (Txt.join lfS ms).length ≤ wtL ms := by
  have h1n : lfS.length = 1 := by decide +kernel
  refine Nat.le_trans (jn_len _ _) ?_
  rw [h1n, Nat.mul_one]
  have : ∀ a : List Str, (a.map (·.length)).sum + a.length = wtL a := by
    intro a
    induction a with
    | nil => rfl
    | cons l a ih =>
      rw [List.map_cons, List.sum_cons, List.length_cons]
      show _ = l.length + 1 + wtL a
      omega
  exact Nat.le_of_eq (this ms)
theorem sum_wt (ms : List Str) : (ms.map (·.length)).sum + ms.length * lfS.length = wtL ms := by
  have h1n : lfS.length = 1 := by decide +kernel
  rw [h1n, Nat.mul_one]
  induction ms with
  | nil => rfl
  | cons l a ih =>
    rw [List.map_cons, List.sum_cons, List.length_cons]
    show _ = l.length + 1 + wtL a
    omega
theorem spl_wt : ∀ (l acc : List Nat), ((spl [10] 0 acc l).map fun p => p.length + 1).sum = acc.length + l.length + 1
  | [], acc => by
    rw [spl_nil]
    simp
  | c :: r, acc => by
    by_cases h : pre [10] (c :: r) = true
    · rw [spl_hit h]
      have := spl_wt r []
      show (acc.length + 1) + ((spl [10] 0 [] r).map fun p => p.length + 1).sum = _
      rw [this, List.length_cons, List.length_nil]
      omega
    · have e : spl [10] 0 acc (c :: r) = spl [10] 0 (acc ++ [c]) r := by
        rw [spl, if_neg h]
      rw [e, spl_wt r (acc ++ [c]), List.length_append, List.length_cons, List.length_cons, List.length_nil]
      omega
theorem wt_split (x : Str) : wtL (Txt.split x lfS) = x.length + 1 := by
  have e1 : tl lfS = [10] := by decide +kernel
  have h := split_spl x lfS (by rw [e1]; simp) (by first | exact kind_ok (by decide +kernel) | decide +kernel)
  have h2 : ∀ a : List Str, wtL a = ((a.map tl).map fun p => p.length + 1).sum := by
    intro a
    induction a with
    | nil => rfl
    | cons l a ih =>
      rw [List.map_cons, List.map_cons, List.sum_cons, ← ih, ← len_tl]
      rfl
  rw [h2, h, e1, spl_wt, len_tl]
  simp
/-- nines -/
def rNine : R2 := fun x y H Q => ∃ d : Nat, x = .str "9" ∧ y = .int (d : Int) ∧ (d = 30 ∨ d = 31) ∧ ∀ z : Str, z.length = d → Q (.str z) H
theorem op_nine {X : Cx} : OpR X (binaryOp .Mult) rNine := by
  intro pins s σ H x y v u Q I rx ry h
  obtain ⟨d, rfl, rfl, hd, q⟩ := h
  obtain ⟨t, rfl⟩ := rx
  obtain ⟨t', rfl⟩ := ry
  have h1 : MulOk ("9" : Str) (d : Int) ∧ (Txt.mul ("9" : Str) (d : Int)).length = d := by
    rcases hd with rfl | rfl
    · exact ⟨⟨by decide, by decide +kernel, by decide +kernel⟩, by decide +kernel⟩
    · exact ⟨⟨by decide, by decide +kernel, by decide +kernel⟩, by decide +kernel⟩
  refine SB.mul h1.1 fun t2 tk => ?_
  exact ⟨.str _, H, I.tok _, ⟨_, rfl⟩, q _ h1.2⟩
end ZT
set_option Elab.async false
set_option linter.all false
set_option maxRecDepth 100000
set_option maxHeartbeats 4000000
/-! _law_changed. -/
namespace ZT
open PySem PySem.Spec PyProof.Rows L2 ZX PM TL
theorem cut_toL {ls : List Str} {k : Nat} (h : k ≤ ls.length) : cutV (ls.map V.str) none (some (k : Int)) = (ls.take k).map V.str := by
  unfold cutV
  have h1 : HT.sIx (ls.map V.str).length 0 none = 0 := rfl
  have h2 : HT.sIx (ls.map V.str).length (ls.map V.str).length (some (k : Int)) = k := by
    rw [HT.sIx_nat, List.length_map]
    omega
  rw [h1, h2, List.drop_zero, Nat.sub_zero, List.map_take]
theorem cut_fromL {ls : List Str} {k : Nat} : cutV (ls.map V.str) (some (k : Int)) none = (ls.drop k).map V.str := by
  unfold cutV
  have h1 : HT.sIx (ls.map V.str).length 0 (some (k : Int)) = min k (ls.map V.str).length := HT.sIx_nat _ _ _
  have h2 : HT.sIx (ls.map V.str).length (ls.map V.str).length none = (ls.map V.str).length := rfl
  rw [h1, h2, List.map_drop]
  by_cases h : k ≤ (ls.map V.str).length
  · rw [Nat.min_eq_left h]
    exact List.take_of_length_le (by rw [List.length_drop]; omega)
  · rw [Nat.min_eq_right (by omega), Nat.sub_self, List.take_zero, List.drop_eq_nil_of_le (by omega)]
theorem cut_midL {ls : List Str} {k : Nat} (h : k ≤ ls.length) : cutV (ls.map V.str) (some (k : Int)) (some ((k + 2 : Nat) : Int)) = ((ls.drop k).take 2).map V.str := by
  unfold cutV
  have hn : (ls.map V.str).length = ls.length := List.length_map ..
  rw [HT.sIx_nat, HT.sIx_nat, hn, Nat.min_eq_left h, List.map_take, List.map_drop]
  by_cases h2 : k + 2 ≤ ls.length
  · rw [Nat.min_eq_left h2, Nat.add_sub_cancel_left]
  · rw [Nat.min_eq_right (by omega), List.take_of_length_le (by rw [List.length_drop, hn]; exact Nat.le_refl _), List.take_of_length_le (by rw [List.length_drop, hn]; omega)]
end ZT
namespace K05
open PySem PySem.Spec PyProof.Rows L2 ZX PM ZR ZT TL
abbrev sLChanged : Stmt := top 63
def spLChanged : Sp := fun vs H Q _ => ∃ (p c : Addr) (x : Str), vs = [.ref p, .str x] ∧ HandAt H p c ∧ x.length ≤ 20000 ∧ ∀ (y : Str) (H' : Hp), y.length ≤ 2 * x.length + 100 → HandAt H' p c → Q (.str y) H'
section
variable {P : Program} {w : World} {K : PySem.W.Frag} {mg : Str → Option Value} {base : Heap}
abbrev NG : List Str := ["_law_hand_here", "_law_text", "_law_way", "_law_at", "_law_sign", "_law_lines_here", "_law_odd", "_law_line", "_law_moved"]
theorem scLChanged : FnScope NG ["_law_hand_here", "_law_text"] (defScope sLChanged) := ⟨rfl, rfl, rfl, by decide +kernel, rfl, by decide +kernel, by decide +kernel⟩
theorem ok_lchanged {f : Addr} {fd : FuncData} (F : FnP K "_law_changed" sLChanged f fd) (T : Bi mg) (C_draw : Cal P w K mg base "_law_draw" 1 ["_law_hand_here", "_law_many"] spDraw) (C_any : Cal P w K mg base "_law_any" 2 ["_law_hand_here", "_law_things"] spAnyS) : FnOk P w K mg base CX0 3 f fd ["_law_hand_here", "_law_text"] spLChanged := by
  refine F.ok scLChanged (fun vs H Q E h => ?_) (fun cdv A outer s H vs Q E hr h => ?_)
  · obtain ⟨p, c, x, rfl, _⟩ := h
    rfl
  · obtain ⟨p, c, x, rfl, hh, hx, k⟩ := h
    have hr1 := hr.mono (show 1 ≤ 2 by decide)
    refine ⟨_, PSs.nox (pss_cut (ps_set (i := 2) scLChanged.nd rfl (Or.inl rfl) (pcal C_draw hr1 rfl (pa_cons (pv 0) (pa_cons pe_int pa_nil))))
    (pss_cut (ps_set (i := 3) scLChanged.nd rfl (Or.inl rfl) (pcal C_draw hr1 rfl (pa_cons (pv 0) (pa_cons (pe_op op_add (pe_callB call_len_str (by rfl) T.b_len (by decide +kernel) (pa_cons (pv 1) pa_nil)) pe_int) pa_nil))))
    (pss_cut (ps_set (i := 4) scLChanged.nd rfl (Or.inl rfl) (pcal C_any hr rfl (pa_cons (pv 0) (pa_cons pe_str pa_nil))))
    (pss_cut (ps_if (pt_cmpR op_lt (pv 2) pe_int (nomark _)) (pss_one (ps_ret (pe_ix ix_list (pe_lst (pa_cons (pe_op op_add_str (pe_op op_add_str (pe_slice sl_str (pv 1) po_none (po_some (pv 3))) (pv 4)) (pe_slice sl_str (pv 1) (po_some (pv 3)) po_none)) (pa_cons (pe_op op_add_str (pe_slice sl_str (pv 1) po_none (po_some (pv 3))) (pe_slice sl_str (pv 1) (po_some (pe_op op_add (pv 3) pe_int)) po_none)) (pa_cons (pe_op op_add_str (pe_op op_add_str (pe_slice sl_str (pv 1) po_none (po_some (pv 3))) (pv 4)) (pe_slice sl_str (pv 1) (po_some (pe_op op_add (pv 3) pe_int)) po_none)) pa_nil)))) (pv 2) (fun _ _ => rfl)))) pss_nil)
    (pss_cut (ps_set (i := 5) scLChanged.nd rfl (Or.inl rfl) (pe_split (pv 1) pe_str))
    (pss_cut (ps_set (i := 3) scLChanged.nd rfl (Or.inl rfl) (pcal C_draw hr1 rfl (pa_cons (pv 0) (pa_cons (pe_callB call_len_seq (by rfl) T.b_len (by decide +kernel) (pa_cons (pv 5) pa_nil)) pa_nil))))
    (pss_cut (ps_set (i := 6) scLChanged.nd rfl (Or.inl rfl) (pe_lst (pa_cons pe_str (pa_cons pe_str (pa_cons pe_str (pa_cons pe_str (pa_cons pe_str (pa_cons pe_str (pa_cons pe_str (pa_cons pe_str (pa_cons pe_str pa_nil)))))))))))
    (pss_cut (ps_set (i := 6) scLChanged.nd rfl (Or.inl rfl) (pe_op op_cat (pv 6) (pe_lst (pa_cons pe_str (pa_cons pe_str (pa_cons (pe_op op_add_str pe_str (pe_op op_nine pe_str pe_int)) (pa_cons (pe_op op_add_str pe_str (pe_op op_nine pe_str pe_int)) (pa_cons pe_str (pa_cons pe_str (pa_cons pe_str pa_nil))))))))))
    (pss_cut (ps_set (i := 6) scLChanged.nd rfl (Or.inl rfl) (pe_op op_cat (pv 6) (pe_lst (pa_cons pe_str (pa_cons pe_str (pa_cons pe_str pa_nil))))))
    (pss_cut (ps_set (i := 6) scLChanged.nd rfl (Or.inl rfl) (pe_op op_cat (pv 6) (pe_lst (pa_cons pe_str (pa_cons pe_str (pa_cons pe_str (pa_cons pe_str (pa_cons pe_str (pa_cons pe_str (pa_cons pe_str (pa_cons pe_str pa_nil)))))))))))
    (pss_cut (ps_set (i := 7) scLChanged.nd rfl (Or.inl rfl) (pe_op op_add_str (pe_op op_indG pe_str (pcal C_draw hr1 rfl (pa_cons (pv 0) (pa_cons pe_int pa_nil)))) (pe_ix ix_list (pv 6) (pcal C_draw hr1 rfl (pa_cons (pv 0) (pa_cons pe_int pa_nil))) (fun _ _ => rfl))))
    (pss_cut (ps_if (pt_cmpR op_eq (pv 2) pe_int (nomark _)) (pss_one (ps_ret (pe_join pe_str (pe_op op_cat (pe_op op_cat (pe_slice sl_list (pv 5) po_none (po_some (pv 3))) (pe_lst (pa_cons (pv 7) pa_nil))) (pe_slice sl_list (pv 5) (po_some (pv 3)) po_none))))) pss_nil)
    (pss_cut (ps_if (pt_cmpR op_eq (pv 2) pe_int (nomark _)) (pss_one (ps_ret (pe_join pe_str (pe_op op_cat (pe_slice sl_list (pv 5) po_none (po_some (pv 3))) (pe_slice sl_list (pv 5) (po_some (pe_op op_add (pv 3) pe_int)) po_none))))) pss_nil)
    (pss_cut (ps_if (pt_cmpR op_eq (pv 2) pe_int (nomark _)) (pss_one (ps_ret (pe_join pe_str (pe_op op_cat (pe_slice sl_list (pv 5) po_none (po_some (pe_op op_add (pv 3) pe_int))) (pe_slice sl_list (pv 5) (po_some (pv 3)) po_none))))) pss_nil)
    (pss_cut (ps_if (pt_cmpR op_eq (pv 2) pe_int (nomark _)) (pss_cut (ps_set (i := 8) scLChanged.nd rfl (Or.inl rfl) (pe_ifExp (pt_cmpR op_eq (pcal C_draw hr1 rfl (pa_cons (pv 0) (pa_cons pe_int pa_nil))) pe_int (nomark _)) (pe_op op_add_str pe_str (pe_ix ix_list (pv 5) (pv 3) (fun _ _ => rfl))) (pe_slice sl_str (pe_ix ix_list (pv 5) (pv 3) (fun _ _ => rfl)) (po_some pe_int) po_none)))
      (pss_one (ps_ret (pe_join pe_str (pe_op op_cat (pe_op op_cat (pe_slice sl_list (pv 5) po_none (po_some (pv 3))) (pe_lst (pa_cons (pv 8) pa_nil))) (pe_slice sl_list (pv 5) (po_some (pe_op op_add (pv 3) pe_int)) po_none)))))) pss_nil)
    (pss_cut (ps_if (pt_cmpR op_eq (pv 2) pe_int (nomark _)) (pss_one (ps_ret (pe_join pe_str (pe_op op_cat (pe_op op_cat (pe_slice sl_list (pv 5) po_none (po_some (pv 3))) (pe_revL (pe_slice sl_list (pv 5) (po_some (pv 3)) (po_some (pe_op op_add (pv 3) pe_int))))) (pe_slice sl_list (pv 5) (po_some (pe_op op_add (pv 3) pe_int)) po_none))))) pss_nil)
    (pss_one (ps_ret (pe_ix ix_list (pe_lst (pa_cons (pe_slice sl_str (pv 1) po_none (po_some (pe_un un_neg pe_int))) (pa_cons (pe_op op_add_str (pv 1) pe_str) (pa_cons (pe_op op_add_str (pv 1) pe_str) (pa_cons (pe_op op_add_str (pv 1) pe_str) (pa_cons (pe_op op_add_str (pv 1) (pv 1)) pa_nil)))))) (pcal C_draw hr1 rfl (pa_cons (pv 0) (pa_cons pe_int pa_nil))) (fun _ _ => rfl)))))))))))))))))))), ?_⟩
    refine ⟨fun σ' H' => ∃ wy : Int, σ' = [some (.ref p), some (.str x), some (.int wy), none, none, none, none, none, none] ∧ 0 ≤ wy ∧ wy < 9 ∧ HandAt H' p c, ?_, ?_⟩
    · exact ⟨_, rfl, p, c, 9, rfl, hh, by decide, by decide, fun d H2 d0 d1 hh2 ch => ⟨d, rfl, d0, d1, hh2⟩⟩
    rintro σ1 H1 ⟨wy, rfl, w0, w9, hh1⟩
    refine ⟨fun σ' H' => ∃ at_ : Int, σ' = [some (.ref p), some (.str x), some (.int wy), some (.int at_), none, none, none, none, none] ∧ 0 ≤ at_ ∧ at_ ≤ x.length ∧ HandAt H' p c, ?_, ?_⟩
    · exact ⟨_, rfl, _, rfl, x, rfl, Nat.le_trans hx (by decide), _, _, rfl, rfl, p, c, (x.length : Int) + 1, rfl, hh1, by omega, by omega, fun d H2 d0 d1 hh2 ch => ⟨d, rfl, d0, by omega, hh2⟩⟩
    rintro σ2 H2 ⟨at_, rfl, a0, ax, hh2⟩
    refine ⟨fun σ' H' => ∃ sg : Str, σ' = [some (.ref p), some (.str x), some (.int wy), some (.int at_), some (.str sg), none, none, none, none] ∧ sg.length = 1 ∧ HandAt H' p c, ?_, ?_⟩
    · exact ⟨_, rfl, p, c, _, rfl, hh2, by decide +kernel, by decide +kernel, fun y H3 hy hh3 ch => ⟨y, rfl, hy, hh3⟩⟩
    rintro σ3 H3 ⟨sg, rfl, hsg, hh3⟩
    have hxs : x.length ≤ sizeLine := Nat.le_trans hx (by decide)
    have cl : ∀ a b, (cutS x a b).length ≤ x.length := fun a b => cutS_length x a b
    have hle : ∀ {n : Nat}, n ≤ 100000 → n ≤ sizeLine := fun h => Nat.le_trans h (by decide)
    have c1 := cl none (some at_)
    have c2 := cl (some at_) none
    have c3 := cl (some (at_ + 1)) none
    refine ⟨fun σ' H' => σ' = [some (.ref p), some (.str x), some (.int wy), some (.int at_), some (.str sg), none, none, none, none] ∧ ¬ wy < 3 ∧ HandAt H' p c, ?_, ?_⟩
    · refine ⟨_, rfl, _, _, rfl, rfl, _, rfl, ?_⟩
      refine ite2 (fun e => ?_) (fun e => ⟨rfl, fun z => e (decide_eq_true z), hh3⟩)
      refine ⟨_, rfl, _, rfl, at_, rfl, x, rfl, hxs, _, rfl, _, _, rfl, rfl, hle (by omega), _, rfl, _, rfl, at_, rfl, x, rfl, hxs, _, _, rfl, rfl, hle (by rw [len_app]; omega), ?_⟩
      refine ⟨_, rfl, _, rfl, at_, rfl, x, rfl, hxs, _, rfl, _, rfl, _, _, rfl, rfl, _, rfl, x, rfl, hxs, _, _, rfl, rfl, hle (by omega), ?_⟩
      refine ⟨_, rfl, _, rfl, at_, rfl, x, rfl, hxs, _, rfl, _, _, rfl, rfl, hle (by omega), _, rfl, _, rfl, _, _, rfl, rfl, _, rfl, x, rfl, hxs, _, _, rfl, rfl, hle (by rw [len_app]; omega), by show 3 ≤ sizeLine; decide, fun l nl => ?_⟩
      have hh3' := hh3.new (o := .lst [V.str (cutS x none (some at_) ++ sg ++ cutS x (some at_) none), V.str (cutS x none (some at_) ++ cutS x (some (at_ + 1)) none), V.str (cutS x none (some at_) ++ sg ++ cutS x (some (at_ + 1)) none)]) nl
      obtain ⟨z, hz, hq⟩ := three w0 (of_decide_eq_true e) (fun v => Q v (upd H3 l (.lst [V.str (cutS x none (some at_) ++ sg ++ cutS x (some at_) none), V.str (cutS x none (some at_) ++ cutS x (some (at_ + 1)) none), V.str (cutS x none (some at_) ++ sg ++ cutS x (some (at_ + 1)) none)]))) (k (cutS x none (some at_) ++ sg ++ cutS x (some at_) none) _ (by rw [len_app, len_app]; omega) hh3') (k (cutS x none (some at_) ++ cutS x (some (at_ + 1)) none) _ (by rw [len_app]; omega) hh3') (k (cutS x none (some at_) ++ sg ++ cutS x (some (at_ + 1)) none) _ (by rw [len_app, len_app]; omega) hh3')
      exact ⟨_, rfl, l, _, _, z, rfl, rfl, SqL.of upd_same, hz, hq⟩
    rintro σ4 H4 ⟨rfl, w3, hh4⟩
    have nep : ∀ {G : Hp} {z : Addr}, HandAt G p c → G z = none → z ≠ p := fun hg n => by
      obtain ⟨o, e⟩ := hg.some
      exact (ne_of_none e n).symm
    obtain ⟨ls, hls⟩ : ∃ ls, ls = Txt.split x lfS := ⟨_, rfl⟩
    have wls : wtL ls = x.length + 1 := by rw [hls]; exact wt_split x
    have hne : 0 < ls.length := by
      obtain ⟨l1, l2, e, _⟩ := split_last x
      rw [hls, e, List.length_append]
      exact Nat.lt_of_lt_of_le (by decide) (Nat.le_add_left 1 _)
    have hlm : ls.length ≤ 20001 := by
      have := wt_many ls
      omega
    refine ⟨fun σ' H' => ∃ l : Addr, σ' = [some (.ref p), some (.str x), some (.int wy), some (.int at_), some (.str sg), some (.ref l), none, none, none] ∧ HandAt H' p c ∧ l ≠ p ∧ H' l = some (.lst (ls.map V.str)), ?_, ?_⟩
    · refine ⟨_, rfl, ⟨_, rfl⟩, x, _, rfl, rfl, by decide +kernel, Nat.le_trans (show _ ≤ 30000 by omega) (by decide), fun q nq => ⟨q, rfl, hh4.new nq, nep hh4 nq, ?_⟩⟩
      rw [hls]
      exact upd_same
    rintro σ5 H5 ⟨l, rfl, hh5, nlp, hl⟩
    refine ⟨fun σ' H' => ∃ at2 : Nat, σ' = [some (.ref p), some (.str x), some (.int wy), some (.int (at2 : Int)), some (.str sg), some (.ref l), none, none, none] ∧ at2 < ls.length ∧ HandAt H' p c ∧ H' l = some (.lst (ls.map V.str)), ?_, ?_⟩
    · refine ⟨_, rfl, _, rfl, l, ls.map V.str, rfl, .inl (SqL.of hl), p, c, ((ls.map V.str).length : Int), rfl, hh5, by rw [List.length_map]; omega, by rw [List.length_map]; omega, fun d H6 d0 d1 hh6 ch => ?_⟩
      rw [List.length_map] at d1
      refine ⟨d.toNat, ?_, by omega, hh6, by rw [ch l nlp]; exact hl⟩
      rw [Int.toNat_of_nonneg d0]
      rfl
    rintro σ6 H6 ⟨at2, rfl, ha2, hh6, hl6⟩
    let OD : Nat → L2.St → Hp → Prop := fun n σ' H' => ∃ (o : Addr) (ms : List Str), σ' = [some (.ref p), some (.str x), some (.int wy), some (.int (at2 : Int)), some (.str sg), some (.ref l), some (.ref o), none, none] ∧ HandAt H' p c ∧ o ≠ p ∧ H' l = some (.lst (ls.map V.str)) ∧ H' o = some (.lst (ms.map V.str)) ∧ ms.length = n ∧ ∀ t ∈ ms, t.length ≤ 40
    have more : ∀ {n m : Nat} {o q : Addr} {ms ns : List Str} {G : Hp}, n + m ≤ 100 → HandAt G p c → G l = some (.lst (ls.map V.str)) → G o = some (.lst (ms.map V.str)) → ms.length = n → (∀ t ∈ ms, t.length ≤ 40) → ns.length = m → (∀ t ∈ ns, t.length ≤ 40) → G q = none → rCat (.ref o) (.ref q) (upd G q (.lst (ns.map V.str))) (fun v H' => OD (n + m) [some (.ref p), some (.str x), some (.int wy), some (.int (at2 : Int)), some (.str sg), some (.ref l), some v, none, none] H') := by
      intro n m o q ms ns G hnm hg gl go hn hms hm hns nq
      refine ⟨o, q, _, _, rfl, rfl, by rw [upd_ne (ne_of_none go nq)]; exact go, upd_same, hle (by rw [List.length_map, List.length_map]; omega), fun r nr => ⟨r, ms ++ ns, rfl, (hg.new nq).new nr, nep (hg.new nq) nr, ?_, ?_, ?_, ?_⟩⟩
      · have e : upd G q (.lst (ns.map V.str)) l = some (.lst (ls.map V.str)) := by rw [upd_ne (ne_of_none gl nq)]; exact gl
        rw [upd_ne (ne_of_none e nr)]
        exact e
      · rw [upd_same, List.map_append]
      · rw [List.length_append, hn, hm]
      · intro t ht
        exact (List.mem_append.mp ht).elim (hms t) (hns t)
    refine ⟨OD 9, ?_, ?_⟩
    · exact ⟨by show 9 ≤ sizeLine; decide, fun q nq => ⟨q, ["or", "either", "again", "ask x", "ask = print", "x = f()", "x = f(a, b, c, d)", "x = f(a,b)", "x=1"], rfl, hh6.new nq, nep hh6 nq, by rw [upd_ne (ne_of_none hl6 nq)]; exact hl6, upd_same, rfl, by decide +kernel⟩⟩
    rintro σ7 H7 ⟨o, ms, rfl, hh7, nop, hl7, ho7, hn7, hm7⟩
    refine ⟨OD 16, ?_, ?_⟩
    · refine ⟨_, rfl, 31, rfl, rfl, .inr rfl, fun z1 hz1 => ⟨_, _, rfl, rfl, hle ?_, 30, rfl, rfl, .inl rfl, fun z2 hz2 => ⟨_, _, rfl, rfl, hle ?_, by show 7 ≤ sizeLine; decide, fun q nq => ?_⟩⟩⟩
      · rw [hz1, show (Str.ofString "x = ").length = 4 by decide +kernel]
        decide
      · rw [hz2, show (Str.ofString "x = -").length = 5 by decide +kernel]
        decide
      refine more (n := 9) (m := 7) (ns := ["x = 01", "x = -0", ("x = " : Str) ++ z1, ("x = -" : Str) ++ z2, "print  x", "ask", "toolongnam = 1"]) (by decide) hh7 hl7 ho7 hn7 hm7 rfl ?_ nq
      intro t ht
      simp only [List.mem_cons, List.not_mem_nil, or_false] at ht
      rcases ht with e | e | e | e | e | e | e
      · rw [e]; decide +kernel
      · rw [e]; decide +kernel
      · rw [e, len_app, hz1, show ("x = " : Str).length = 4 by decide +kernel]; decide
      · rw [e, len_app, hz2, show ("x = -" : Str).length = 5 by decide +kernel]; decide
      · rw [e]; decide +kernel
      · rw [e]; decide +kernel
      · rw [e]; decide +kernel
    rintro σ8 H8 ⟨o, ms, rfl, hh8, nop, hl8, ho8, hn8, hm8⟩
    refine ⟨OD 19, ?_, ?_⟩
    · exact ⟨_, rfl, by show 3 ≤ sizeLine; decide, fun q nq => more (n := 16) (m := 3) (ns := ["x = f(a, )", "", "  "]) (by decide) hh8 hl8 ho8 hn8 hm8 rfl (by decide +kernel) nq⟩
    rintro σ9 H9 ⟨o, ms, rfl, hh9, nop, hl9, ho9, hn9, hm9⟩
    refine ⟨OD 27, ?_, ?_⟩
    · exact ⟨_, rfl, by show 8 ≤ sizeLine; decide, fun q nq => more (n := 19) (m := 8) (ns := ["or = either", "x = f (a)", "X = 1", "x = y z", "either = 0", "x = f(a", "say x", "x = 1 "]) (by decide) hh9 hl9 ho9 hn9 hm9 rfl (by decide +kernel) nq⟩
    rintro σa Ha ⟨o, ms, rfl, hha, nop, hla, hoa, hna, hma⟩
    refine ⟨fun σ' H' => ∃ ln y6, σ' = [some (.ref p), some (.str x), some (.int wy), some (.int (at2 : Int)), some (.str sg), some (.ref l), y6, some (.str ln), none] ∧ HandAt H' p c ∧ H' l = some (.lst (ls.map V.str)) ∧ ln.length ≤ 50, ?_, ?_⟩
    · refine ⟨_, rfl, p, c, 6, rfl, hha, by decide, by decide, fun d Hb d0 d1 hhb ch => ?_⟩
      have ed : ((d.toNat : Nat) : Int) = d := Int.toNat_of_nonneg d0
      refine ⟨d.toNat, rfl, by rw [ed], by omega, _, rfl, _, rfl, p, c, 27, rfl, hhb, by decide, by decide, fun d2 Hc d20 d21 hhc ch2 => ?_⟩
      have hoc : Hc o = some (.lst (ms.map V.str)) := by rw [ch2 o nop, ch o nop]; exact hoa
      have hlc : Hc l = some (.lst (ls.map V.str)) := by rw [ch2 l nlp, ch l nlp]; exact hla
      have hd2 : d2.toNat < ms.length := by omega
      have hat : atI (ms.map V.str) d2 = some (.str ms[d2.toNat]) := at_of (j := d2.toNat) (Int.toNat_of_nonneg d20).symm (by rw [List.getElem?_map, List.getElem?_eq_getElem hd2]; rfl)
      have hmm := hma _ (List.getElem_mem hd2)
      refine ⟨o, _, d2, _, rfl, rfl, SqL.of hoc, hat, _, _, rfl, rfl, hle (by rw [ind_len]; omega), _, _, rfl, hhc, hlc, ?_⟩
      rw [len_app, ind_len]
      omega
    rintro σb Hb ⟨ln, y6, rfl, hhb, hlb, hln⟩
    have kp_ : ∀ {G : Hp} {q z : Addr} {O v}, G z = some v → G q = none → upd G q O z = some v := fun h n => by
      rw [upd_ne (ne_of_none h n)]
      exact h
    have fin : ∀ {G : Hp} {ms : List Str}, HandAt G p c → wtL ms ≤ 2 * x.length + 100 → ((ms.map (·.length)).sum + ms.length * lfS.length ≤ 16777216 ∧ Q (.str (Txt.join lfS ms)) G) := fun hg hw => ⟨by rw [sum_wt]; omega, k _ _ (Nat.le_trans (join_wt _) hw) hg⟩
    obtain ⟨m1, e1, w1, n1⟩ := cut_map ls none (some (at2 : Int))
    obtain ⟨m2, e2, w2, n2⟩ := cut_map ls (some (at2 : Int)) none
    obtain ⟨m3, e3, w3', n3⟩ := cut_map ls (some ((at2 : Int) + 1)) none
    obtain ⟨m4, e4, w4, n4⟩ := cut_map ls none (some ((at2 : Int) + 1))
    let SB : L2.St → Hp → Prop := fun σ' H' => σ' = [some (.ref p), some (.str x), some (.int wy), some (.int (at2 : Int)), some (.str sg), some (.ref l), y6, some (.str ln), none] ∧ H' = Hb
    refine ⟨SB, ?_, ?_⟩
    · refine ⟨_, rfl, rfl, _, rfl, ?_⟩
      refine ite2 (fun _ => ?_) (fun _ => ⟨rfl, rfl⟩)
      refine ⟨⟨_, rfl⟩, _, rfl, _, rfl, _, rfl, l, _, rfl, SqL.of hlb, fun q nq => ⟨_, rfl, by show 1 ≤ sizeLine; decide, fun q2 nq2 => ⟨q, q2, _, _, rfl, rfl, kp_ upd_same nq2, upd_same, hle (by rw [e1, List.length_map]; show m1.length + 1 ≤ _; omega), fun q3 nq3 => ⟨_, rfl, _, rfl, _, rfl, l, _, rfl, SqL.of (kp_ (kp_ (kp_ hlb nq) nq2) nq3), fun q4 nq4 => ⟨q3, q4, _, _, rfl, rfl, kp_ upd_same nq4, upd_same, hle (by rw [e1, e2, List.length_append, List.length_map, List.length_map]; show m1.length + 1 + m2.length ≤ _; omega), fun q5 nq5 => ⟨_, q5, m1 ++ [ln] ++ m2, rfl, rfl, .inl (SqL.of ?_), fin (((((hhb.new nq).new nq2).new nq3).new nq4).new nq5) ?_⟩⟩⟩⟩⟩⟩
      · rw [e1, e2, List.map_append, List.map_append]
        exact upd_same
      · rw [wt_app, wt_app]
        show wtL m1 + (ln.length + 1 + 0) + wtL m2 ≤ _
        omega
    rintro _ _ ⟨rfl, rfl⟩
    refine ⟨SB, ?_, ?_⟩
    · refine ⟨_, rfl, rfl, _, rfl, ?_⟩
      refine ite2 (fun _ => ?_) (fun _ => ⟨rfl, rfl⟩)
      refine ⟨⟨_, rfl⟩, _, rfl, _, rfl, _, rfl, l, _, rfl, SqL.of hlb, fun q nq => ⟨_, rfl, _, rfl, _, _, rfl, rfl, _, rfl, l, _, rfl, SqL.of (kp_ hlb nq), fun q4 nq4 => ⟨q, q4, _, _, rfl, rfl, kp_ upd_same nq4, upd_same, hle (by rw [e1, e3, List.length_map, List.length_map]; omega), fun q5 nq5 => ⟨_, q5, m1 ++ m3, rfl, rfl, .inl (SqL.of ?_), fin (((hhb.new nq).new nq4).new nq5) ?_⟩⟩⟩⟩
      · rw [e1, e3, List.map_append]
        exact upd_same
      · rw [wt_app]
        omega
    rintro _ _ ⟨rfl, rfl⟩
    refine ⟨SB, ?_, ?_⟩
    · refine ⟨_, rfl, rfl, _, rfl, ?_⟩
      refine ite2 (fun _ => ?_) (fun _ => ⟨rfl, rfl⟩)
      refine ⟨⟨_, rfl⟩, _, rfl, _, rfl, _, _, rfl, rfl, _, rfl, l, _, rfl, SqL.of hlb, fun q nq => ⟨_, rfl, _, rfl, _, rfl, l, _, rfl, SqL.of (kp_ hlb nq), fun q4 nq4 => ⟨q, q4, _, _, rfl, rfl, kp_ upd_same nq4, upd_same, hle (by rw [e2, e4, List.length_map, List.length_map]; omega), fun q5 nq5 => ⟨_, q5, m4 ++ m2, rfl, rfl, .inl (SqL.of ?_), fin (((hhb.new nq).new nq4).new nq5) ?_⟩⟩⟩⟩
      · rw [e4, e2, List.map_append]
        exact upd_same
      · rw [wt_app]
        omega
    rintro _ _ ⟨rfl, rfl⟩
    refine ⟨SB, ?_, ?_⟩
    · refine ⟨_, rfl, rfl, _, rfl, ?_⟩
      refine ite2 (fun _ => ?_) (fun _ => ⟨rfl, rfl⟩)
      have hat : ∀ {G : Hp}, atI (ls.map V.str) (at2 : Int) = some (.str ls[at2]) := fun {G} => at_of (j := at2) rfl (by rw [List.getElem?_map, List.getElem?_eq_getElem ha2]; rfl)
      have hsp : wtL (ls.take at2) + (ls[at2].length + 1 + wtL (ls.drop (at2 + 1))) = wtL ls := by
        have e := List.take_append_drop at2 ls
        have e9 := List.drop_eq_getElem_cons ha2
        have : wtL (ls.drop at2) = ls[at2].length + 1 + wtL (ls.drop (at2 + 1)) := by rw [e9]; rfl
        rw [← this, ← wt_app, e]
      have i1 : cutV (ls.map V.str) none (some (at2 : Int)) = (ls.take at2).map V.str := cut_toL (Nat.le_of_lt ha2)
      have i3 : cutV (ls.map V.str) (some ((at2 : Int) + 1)) none = (ls.drop (at2 + 1)).map V.str := by
        rw [show ((at2 : Int) + 1) = ((at2 + 1 : Nat) : Int) by omega]
        exact cut_fromL
      have t1 : (ls.take at2).length ≤ ls.length := by rw [List.length_take]; omega
      have t3 : (ls.drop (at2 + 1)).length ≤ ls.length := by rw [List.length_drop]; omega
      refine ⟨fun σ' H' => ∃ mv : Str, σ' = [some (.ref p), some (.str x), some (.int wy), some (.int (at2 : Int)), some (.str sg), some (.ref l), y6, some (.str ln), some (.str mv)] ∧ HandAt H' p c ∧ H' l = some (.lst (ls.map V.str)) ∧ mv.length ≤ ls[at2].length + 2, ?_, ?_⟩
      · refine ⟨_, rfl, p, c, 2, rfl, hhb, by decide, by decide, fun d Hc d0 d1 hhc ch => ?_⟩
        have hlc : Hc l = some (.lst (ls.map V.str)) := by rw [ch l nlp]; exact hlb
        refine ⟨rfl, _, rfl, ?_⟩
        have h2n : ("  " : Str).length = 2 := by decide +kernel
        refine ite2 (fun _ => ?_) (fun _ => ?_)
        · refine ⟨_, rfl, _, rfl, l, _, _, _, rfl, rfl, SqL.of hlc, hat (G := Hc), _, _, rfl, rfl, hle (by rw [h2n]; omega), _, rfl, hhc, hlc, ?_⟩
          rw [len_app, h2n]
          omega
        · refine ⟨_, rfl, _, rfl, l, _, _, _, rfl, rfl, SqL.of hlc, hat (G := Hc), _, rfl, _, rfl, hle (by omega), _, rfl, hhc, hlc, ?_⟩
          exact Nat.le_trans (cutS_length _ _ _) (Nat.le_add_right _ _)
      rintro σc Hc ⟨mv, rfl, hhc, hlc, hmv⟩
      refine ⟨⟨_, rfl⟩, _, rfl, _, rfl, _, rfl, l, _, rfl, SqL.of hlc, fun q nq => ⟨_, rfl, by show 1 ≤ sizeLine; decide, fun q2 nq2 => ⟨q, q2, _, _, rfl, rfl, kp_ upd_same nq2, upd_same, hle (by rw [i1, List.length_map]; show (ls.take at2).length + 1 ≤ _; omega), fun q3 nq3 => ⟨_, rfl, _, rfl, _, _, rfl, rfl, _, rfl, l, _, rfl, SqL.of (kp_ (kp_ (kp_ hlc nq) nq2) nq3), fun q4 nq4 => ⟨q3, q4, _, _, rfl, rfl, kp_ upd_same nq4, upd_same, hle (by rw [i1, i3, List.length_append, List.length_map, List.length_map]; show (ls.take at2).length + 1 + (ls.drop (at2 + 1)).length ≤ _; omega), fun q5 nq5 => ⟨_, q5, ls.take at2 ++ [mv] ++ ls.drop (at2 + 1), rfl, rfl, .inl (SqL.of ?_), fin (((((hhc.new nq).new nq2).new nq3).new nq4).new nq5) ?_⟩⟩⟩⟩⟩⟩
      · rw [i1, i3, List.map_append, List.map_append]
        exact upd_same
      · rw [wt_app, wt_app]
        show wtL (ls.take at2) + (mv.length + 1 + 0) + wtL (ls.drop (at2 + 1)) ≤ _
        omega
    rintro _ _ ⟨rfl, rfl⟩
    refine ⟨SB, ?_, ?_⟩
    · refine ⟨_, rfl, rfl, _, rfl, ?_⟩
      refine ite2 (fun _ => ?_) (fun _ => ⟨rfl, rfl⟩)
      have i1 : cutV (ls.map V.str) none (some (at2 : Int)) = (ls.take at2).map V.str := cut_toL (Nat.le_of_lt ha2)
      have i2 : cutV (ls.map V.str) (some (at2 : Int)) (some ((at2 : Int) + 2)) = ((ls.drop at2).take 2).map V.str := by
        rw [show ((at2 : Int) + 2) = ((at2 + 2 : Nat) : Int) by omega]
        exact cut_midL (Nat.le_of_lt ha2)
      have i3 : cutV (ls.map V.str) (some ((at2 : Int) + 2)) none = (ls.drop (at2 + 2)).map V.str := by
        rw [show ((at2 : Int) + 2) = ((at2 + 2 : Nat) : Int) by omega]
        exact cut_fromL
      have t1 : (ls.take at2).length ≤ ls.length := by rw [List.length_take]; omega
      have t2 : ((ls.drop at2).take 2).length ≤ ls.length := by rw [List.length_take, List.length_drop]; omega
      have t3 : (ls.drop (at2 + 2)).length ≤ ls.length := by rw [List.length_drop]; omega
      have hsp : wtL (ls.take at2) + (wtL ((ls.drop at2).take 2) + wtL (ls.drop (at2 + 2))) = wtL ls := by
        have e8 : ls.drop (at2 + 2) = (ls.drop at2).drop 2 := by rw [List.drop_drop]
        rw [e8, ← wt_app, List.take_append_drop, ← wt_app, List.take_append_drop]
      refine ⟨⟨_, rfl⟩, _, rfl, _, rfl, _, rfl, l, _, rfl, SqL.of hlb, fun q nq => ⟨_, rfl, _, rfl, _, rfl, _, rfl, _, _, rfl, rfl, _, rfl, l, _, rfl, SqL.of (kp_ hlb nq), fun q1 nq1 => ⟨q1, _, rfl, SqL.of upd_same, fun q2 nq2 => ⟨q, q2, _, _, rfl, rfl, kp_ (kp_ upd_same nq1) nq2, upd_same, hle (by rw [i1, i2, List.length_reverse, List.length_map, List.length_map]; omega), fun q3 nq3 => ⟨_, rfl, _, rfl, _, _, rfl, rfl, _, rfl, l, _, rfl, SqL.of (kp_ (kp_ (kp_ (kp_ hlb nq) nq1) nq2) nq3), fun q4 nq4 => ⟨q3, q4, _, _, rfl, rfl, kp_ upd_same nq4, upd_same, hle (by rw [i1, i2, i3, List.length_append, List.length_reverse, List.length_map, List.length_map, List.length_map]; omega), fun q5 nq5 => ⟨_, q5, ls.take at2 ++ ((ls.drop at2).take 2).reverse ++ ls.drop (at2 + 2), rfl, rfl, .inl (SqL.of ?_), fin ((((((hhb.new nq).new nq1).new nq2).new nq3).new nq4).new nq5) ?_⟩⟩⟩⟩⟩⟩⟩
      · rw [i1, i2, i3, List.map_append, List.map_append, List.map_reverse]
        exact upd_same
      · rw [wt_app, wt_app, wt_rev]
        omega
    rintro _ _ ⟨rfl, rfl⟩
    have c9 := cl none (some (-1))
    have lx : ("x" : Str).length = 1 := by decide +kernel
    have ln1 : ("\n" : Str).length = 1 := by decide +kernel
    have lsp : (" " : Str).length = 1 := by decide +kernel
    refine ⟨_, rfl, _, rfl, _, rfl, x, rfl, hxs, _, rfl, _, _, rfl, rfl, hle (by rw [lx]; omega), _, rfl, _, _, rfl, rfl, hle (by rw [ln1]; omega), _, rfl, _, _, rfl, rfl, hle (by rw [lsp]; omega), _, rfl, _, rfl, _, _, rfl, rfl, hle (by omega), by show 5 ≤ sizeLine; decide, fun q nq => ?_⟩
    refine ⟨_, rfl, p, c, 5, rfl, hhb.new nq, by decide, by decide, fun d Hc d0 d1 hhc ch => ?_⟩
    have hq := (ch q (nep hhb nq)).trans upd_same
    have e : d = 0 ∨ d = 1 ∨ d = 2 ∨ d = 3 ∨ d = 4 := by omega
    rcases e with rfl | rfl | rfl | rfl | rfl
    · exact ⟨q, _, _, _, rfl, rfl, SqL.of hq, rfl, k _ _ (by omega) hhc⟩
    · exact ⟨q, _, _, _, rfl, rfl, SqL.of hq, rfl, k _ _ (by rw [len_app, lx]; omega) hhc⟩
    · exact ⟨q, _, _, _, rfl, rfl, SqL.of hq, rfl, k _ _ (by rw [len_app, ln1]; omega) hhc⟩
    · exact ⟨q, _, _, _, rfl, rfl, SqL.of hq, rfl, k _ _ (by rw [len_app, lsp]; omega) hhc⟩
    · exact ⟨q, _, _, _, rfl, rfl, SqL.of hq, rfl, k _ _ (by rw [len_app]; omega) hhc⟩
end
end K05
set_option Elab.async false
set_option linter.all false
set_option maxRecDepth 100000
set_option maxHeartbeats 4000000
/-! _law_deep: what is told is no text. -/
namespace K05
open PySem PySem.Spec PyProof.Rows L2 ZX PM ZR ZT TL
/-- made in some turn: a list, a tuple or a dict -/
def DeepS (H : Hp) (n : Nat) (v : V) : Prop := 1 ≤ n → ∃ (a : Addr) (w : V), v = .ref a ∧ (H a = some (.lst [w]) ∨ H a = some (.tup [w]) ∨ H a = some (.dK [(.inl 0, w)]))
theorem DeepS.no {K : PySem.W.Frag} {H : Hp} {n : Nat} {v : V} (h : DeepS H n v) (hn : 1 ≤ n) : NoStr K H v := by
  obtain ⟨a, w, rfl, e | e | e⟩ := h hn
  · exact ⟨.type "list", .base (.lst e), rfl⟩
  · exact ⟨.type "tuple", .base (.tup e), rfl⟩
  · exact ⟨.type "dict", .base (.dK e), rfl⟩
def DeepMS (p c : Addr) (H0 : Hp) (n : Nat) (σ : L2.St) (H : Hp) : Prop := ∃ (v : V) (t : Option V), σ = [some (.ref p), some v, t] ∧ HandAt H p c ∧ Kp p H0 H ∧ DeepS H n v
def spDeepS (K : PySem.W.Frag) : Sp := fun vs H Q _ => ∃ p c : Addr, vs = [.ref p] ∧ HandAt H p c ∧ ∀ (v : V) (H' : Hp), HandAt H' p c → Kp p H H' → NoStr K H' v → Q v H'
section
variable {P : Program} {w : World} {K : PySem.W.Frag} {mg : Str → Option Value} {base : Heap}
theorem ok_deepS {f : Addr} {fd : FuncData} (F : FnP K "_law_deep" sDeep f fd) (T : Bi mg) (C_draw : Cal P w K mg base "_law_draw" 1 ["_law_hand_here", "_law_many"] spDraw) : FnOk P w K mg base CX0 2 f fd ["_law_hand_here"] (spDeepS K) := by
  refine F.ok scDeep (fun vs H Q E h => ?_) (fun cdv A outer s H vs Q E hr h => ?_)
  · obtain ⟨p, c, rfl, _⟩ := h
    rfl
  · obtain ⟨p, c, rfl, hh, k⟩ := h
    refine ⟨_, PSs.nox (pss_cut (ps_set (i := 1) scDeep.nd rfl (Or.inl rfl) (pe_ix ix_list (pe_lst (pa_cons pe_non (pa_cons (pe_tup pa_nil) (pa_cons pe_str pa_nil)))) (pcal C_draw hr rfl (pa_cons (pv 0) (pa_cons pe_int pa_nil))) (fun _ _ => rfl)))
    (pss_cut (ps_for PassesOwn.never rfl (pi_range1 rfl T.b_range (pa_cons (pe_op op_add pe_int (pcal C_draw hr rfl (pa_cons (pv 0) (pa_cons pe_int pa_nil)))) pa_nil)) (pg_name (i := 2) scDeep.nd rfl (Or.inl rfl)) (pss_one (ps_set (i := 1) scDeep.nd rfl (Or.inl rfl) (pe_ix ix_list (pe_lst (pa_cons (pe_lst (pa_cons (pv 1) pa_nil)) (pa_cons (pe_tup (pa_cons (pv 1) pa_nil)) (pa_cons (pe_disp (pps_cons pe_int (pv 1) pps_nil) (by rfl) (by rfl) (fun z => by cases z) (by decide)) pa_nil)))) (pcal C_draw hr rfl (pa_cons (pv 0) (pa_cons pe_int pa_nil))) (fun _ _ => rfl)))))
    (pss_one (ps_ret (pv 1))))), ?_⟩
    refine ⟨fun σ' H' => DeepMS p c H 0 σ' H', ?_, ?_⟩
    · -- found = [None, (), 'x'][draw(3)]
      refine ⟨by decide, fun t nt => ⟨by show 3 ≤ sizeLine; decide, fun l nl => ?_⟩⟩
      have k1 : Kp p H (upd (upd H t (.tup [])) l (.lst [.non, .ref t, .str "x"])) := ((Kp.refl p H).new nt).new nl
      have hh1 := (hh.new (o := .tup []) nt).new (o := .lst [.non, .ref t, .str "x"]) nl
      have ntl : t ≠ l := ne_of_none upd_same nl
      have nlp : l ≠ p := by
        obtain ⟨o, e⟩ := (hh.new (o := .tup []) nt).some
        exact (ne_of_none e nl).symm
      have ntp : t ≠ p := by
        obtain ⟨o, e⟩ := hh.some
        exact (ne_of_none e nt).symm
      refine ⟨_, rfl, p, c, 3, rfl, hh1, by decide, by decide, fun d H' d0 d3 hh' ch => ?_⟩
      have ht : H' t = some (.tup []) := by
        rw [ch t ntp, upd_ne ntl]
        exact upd_same
      obtain ⟨x, hx, hd⟩ := three d0 d3 (DeepS H' 0) (a := .non) (b := .ref t) (c := .str "x") (fun h => absurd h (by decide)) (fun h => absurd h (by decide)) (fun h => absurd h (by decide))
      refine ⟨l, _, _, x, rfl, rfl, SqL.of (by rw [ch l nlp]; exact upd_same), hx, ?_⟩
      exact ⟨x, _, rfl, hh', k1.trans ch.kp, hd⟩
    · rintro σ' H' ⟨v, t, rfl, hh', k1, hd⟩
      refine ⟨fun σ' H' => DeepMS p c H 1 σ' H', ?_, ?_⟩
      · refine ⟨_, rfl, p, c, 8, rfl, hh', by decide, by decide, fun d H2 d0 d8 hh2 ch => ?_⟩
        refine ⟨_, _, rfl, rfl, _, rfl, by omega, by omega, ?_⟩
        refine for_range (fun i => DeepMS p c H i) ⟨v, t, rfl, hh2, k1.trans ch.kp, fun h => absurd h (by decide)⟩ ?_ (fun _ _ h => by
          obtain ⟨v, t, e, hg, kg, hd⟩ := h
          exact ⟨v, t, e, hg, kg, fun _ => hd (by omega)⟩)
        rintro i σ3 H3 hi ⟨v, t, rfl, hh3, k3, hd3⟩
        -- found = [[found], (found,), {0: found}][draw(3)]
        refine ⟨_, rfl, by show 1 ≤ sizeLine; decide, fun a na => ⟨_, rfl, by show 1 ≤ sizeLine; decide, fun b nb => ?_⟩⟩
        intro e ne
        refine ⟨_, rfl, upd_same, [(.inl 0, v)], rfl, by show 1 ≤ 15; decide, by show 3 ≤ sizeLine; decide, fun l nl => ?_⟩
        have eu : (upd (upd (upd (upd H3 a (.lst [v])) b (.tup [v])) e (.dK [])) e (.dK (mergeK [] [(.inl 0, v)]))) = upd (upd (upd H3 a (.lst [v])) b (.tup [v])) e (.dK [(.inl 0, v)]) := upd_upd
        rw [eu] at nl ⊢
        have sa := same_new (o := .lst [v]) na
        have sb := same_new (o := .tup [v]) nb
        have se := same_new (o := .dK [(.inl 0, v)]) ne
        have sl := same_new (o := .lst [.ref a, .ref b, .ref e]) nl
        have s3 : Same H3 _ := ((sa.trans sb).trans se).trans sl
        have hh4 := hh3.kp s3
        have pn : ∀ {G : Hp} {x : Addr}, Same H3 G → G x = none → x ≠ p := fun sG n => by
          obtain ⟨o, eo⟩ := hh3.some
          exact (ne_of_none (sG _ _ eo) n).symm
        refine ⟨_, rfl, p, c, 3, rfl, hh4, by decide, by decide, fun d H5 d0 d3 hh5 ch => ?_⟩
        have ha : H5 a = some (.lst [v]) := by
          rw [ch a (pn (fun _ _ z => z) na)]
          exact sl _ _ (se _ _ (sb _ _ upd_same))
        have hb : H5 b = some (.tup [v]) := by
          rw [ch b (pn sa nb)]
          exact sl _ _ (se _ _ upd_same)
        have he : H5 e = some (.dK [(.inl 0, v)]) := by
          rw [ch e (pn (sa.trans sb) ne)]
          exact sl _ _ upd_same
        have hl5 : H5 l = some (.lst [.ref a, .ref b, .ref e]) := by
          rw [ch l (pn ((sa.trans sb).trans se) nl)]
          exact upd_same
        obtain ⟨x, hx, hdx⟩ := three d0 d3 (DeepS H5 (i + 1)) (a := .ref a) (b := .ref b) (c := .ref e) (fun _ => ⟨a, v, rfl, .inl ha⟩) (fun _ => ⟨b, v, rfl, .inr (.inl hb)⟩) (fun _ => ⟨e, v, rfl, .inr (.inr he)⟩)
        refine ⟨l, _, _, x, rfl, rfl, SqL.of hl5, hx, ?_⟩
        exact ⟨x, _, rfl, hh5, k3.trans (Kp.trans (fun z o _ eo => s3 z o eo) ch.kp), hdx⟩
      · rintro σ' H' ⟨v, t, rfl, hh', kg, hd⟩
        exact ⟨_, rfl, k v H' hh' kg (hd.no (Nat.le_refl 1))⟩
end

end K05
set_option Elab.async false
set_option linter.all false
set_option maxRecDepth 100000
set_option maxHeartbeats 4000000
namespace PM
open PySem PySem.Spec PyProof.Rows L2 ZX ZR TL
theorem strs_inj : ∀ {a b : List Str}, a.map Dt.str = b.map Dt.str → a = b
  | [], [], _ => rfl
  | [], _ :: _, h => by cases h
  | _ :: _, [], h => by cases h
  | x :: a, y :: b, h => by
    injection h with h1 h2
    injection h1 with h1
    rw [h1, strs_inj h2]
mutual
theorem rD_inj : ∀ {r s : Rw}, rD r = rD s → r = s
  | .note x o ps, s, h => by
    cases s with
    | note x' o' ps' =>
      simp only [rD, Dt.tup.injEq, List.cons.injEq, Dt.str.injEq, and_true, true_and] at h
      obtain ⟨rfl, rfl, h3⟩ := h
      rw [strs_inj h3]
    | _ => (exfalso; simp only [rD] at h; injection h with h; injection h with h1 _; injection h1 with h1; revert h1; decide +kernel)
  | .copy x y, s, h => by
    cases s with
    | copy x' y' =>
      simp only [rD, Dt.tup.injEq, List.cons.injEq, Dt.str.injEq, and_true, true_and] at h
      rw [h.1, h.2]
    | _ => (exfalso; simp only [rD] at h; injection h with h; injection h with h1 _; injection h1 with h1; revert h1; decide +kernel)
  | .give x i, s, h => by
    cases s with
    | give x' i' =>
      simp only [rD, Dt.tup.injEq, List.cons.injEq, Dt.str.injEq, Dt.int.injEq, and_true, true_and] at h
      rw [h.1, h.2]
    | _ => (exfalso; simp only [rD] at h; injection h with h; injection h with h1 _; injection h1 with h1; revert h1; decide +kernel)
  | .ask x, s, h => by
    cases s with
    | ask x' =>
      simp only [rD, Dt.tup.injEq, List.cons.injEq, Dt.str.injEq, and_true, true_and] at h
      rw [h]
    | _ => (exfalso; simp only [rD] at h; injection h with h; injection h with h1 _; injection h1 with h1; revert h1; decide +kernel)
  | .prt x, s, h => by
    cases s with
    | prt x' =>
      simp only [rD, Dt.tup.injEq, List.cons.injEq, Dt.str.injEq, and_true, true_and] at h
      rw [h]
    | _ => (exfalso; simp only [rD] at h; injection h with h; injection h with h1 _; injection h1 with h1; revert h1; decide +kernel)
  | .either a b, s, h => by
    cases s with
    | either a' b' =>
      simp only [rD, Dt.tup.injEq, List.cons.injEq, and_true, true_and] at h
      rw [bD_inj h.1, bD_inj h.2]
    | _ => (exfalso; simp only [rD] at h; injection h with h; injection h with h1 _; injection h1 with h1; revert h1; decide +kernel)
  | .again a, s, h => by
    cases s with
    | again a' =>
      simp only [rD, Dt.tup.injEq, List.cons.injEq, and_true, true_and] at h
      rw [bD_inj h]
    | _ => (exfalso; simp only [rD] at h; injection h with h; injection h with h1 _; injection h1 with h1; revert h1; decide +kernel)
theorem bD_inj : ∀ {a b : List Rw}, bD a = bD b → a = b
  | [], [], _ => rfl
  | [], _ :: _, h => by simp [bD] at h
  | _ :: _, [], h => by simp [bD] at h
  | r :: a, s :: b, h => by
    simp [bD] at h
    rw [rD_inj h.1, bD_inj h.2]
end
end PM
set_option Elab.async false
set_option linter.all false
set_option maxRecDepth 100000
set_option maxHeartbeats 4000000
/-! Rows compared; programs compared. -/
namespace PM
open PySem PySem.Spec PyProof.Rows L2 ZX ZR TL
mutual
theorem dep_dR : ∀ (r : Rw), (dR r).depth ≤ 2 * depR r + 2
  | .note x o ps => by
    show max 0 (max 0 (max 0 (max (PyData.depthAll (ps.map .str) + 1) 0))) + 1 ≤ 2 * 0 + 2
    rw [dep_strs]
    decide
  | .copy x y => by show (0 + 1 : Nat) ≤ 2; decide
  | .give x i => by show (0 + 1 : Nat) ≤ 2; decide
  | .ask x => by show (0 + 1 : Nat) ≤ 2; decide
  | .prt x => by show (0 + 1 : Nat) ≤ 2; decide
  | .either a b => by
    have h1 := dep_dB a
    have h2 := dep_dB b
    show max 0 (max (PyData.depthAll (dB a) + 1) (max (PyData.depthAll (dB b) + 1) 0)) + 1 ≤ 2 * (max (depB a) (depB b) + 1) + 2
    omega
  | .again a => by
    have h1 := dep_dB a
    show max 0 (max (PyData.depthAll (dB a) + 1) 0) + 1 ≤ 2 * (depB a + 1) + 2
    omega
theorem dep_dB : ∀ (b : List Rw), PyData.depthAll (dB b) ≤ 2 * depB b + 2
  | [] => Nat.zero_le _
  | r :: b => by
    have h1 := dep_dR r
    have h2 := dep_dB b
    show max (dR r).depth (PyData.depthAll (dB b)) ≤ 2 * max (depR r) (depB b) + 2
    omega
end
theorem shaped_R {d : Nat} {r : Rw} (h : okR d r) (hd : depR r ≤ 4) : SeqAt.shaped (dR r) = true := by
  have := dep_dR r
  show ((dR r).canLay0 && decide ((dR r).depth ≤ 64)) = true
  rw [lay_dR h, decide_eq_true (by omega)]
  rfl
theorem shaped_B {d : Nat} {b : List Rw} (h : okB d b) (hd : depB b ≤ 4) : SeqAt.shaped (.tuple (dB b)) = true := by
  have := dep_dB b
  show (PyData.canLayAll0 (dB b) && decide (PyData.depthAll (dB b) + 1 ≤ 64)) = true
  rw [lay_dB h, decide_eq_true (by omega)]
  rfl
mutual
theorem okR_rows : ∀ {d : Nat} {r : Rw}, okR d r → ∀ x ∈ rowsR r, (∃ e, okR e x) ∧ depR x ≤ depR r
  | d, .either a b, h, x, hx => by
    rcases List.mem_cons.mp hx with rfl | hx
    · exact ⟨⟨d, h⟩, Nat.le_refl _⟩
    · rcases List.mem_append.mp hx with hx | hx
      · have := okB_rows h.2.2.2.1 x hx
        exact ⟨this.1, Nat.le_succ_of_le (Nat.le_trans this.2 (Nat.le_max_left _ _))⟩
      · have := okB_rows h.2.2.2.2 x hx
        exact ⟨this.1, Nat.le_succ_of_le (Nat.le_trans this.2 (Nat.le_max_right _ _))⟩
  | d, .again a, h, x, hx => by
    rcases List.mem_cons.mp hx with rfl | hx
    · exact ⟨⟨d, h⟩, Nat.le_refl _⟩
    · have := okB_rows h.2.2 x hx
      exact ⟨this.1, Nat.le_succ_of_le this.2⟩
  | d, .note _ _ _, h, x, hx => by
    rw [List.mem_singleton.mp hx]
    exact ⟨⟨d, h⟩, Nat.le_refl _⟩
  | d, .copy _ _, h, x, hx => by
    rw [List.mem_singleton.mp hx]
    exact ⟨⟨d, h⟩, Nat.le_refl _⟩
  | d, .give _ _, h, x, hx => by
    rw [List.mem_singleton.mp hx]
    exact ⟨⟨d, h⟩, Nat.le_refl _⟩
  | d, .ask _, h, x, hx => by
    rw [List.mem_singleton.mp hx]
    exact ⟨⟨d, h⟩, Nat.le_refl _⟩
  | d, .prt _, h, x, hx => by
    rw [List.mem_singleton.mp hx]
    exact ⟨⟨d, h⟩, Nat.le_refl _⟩
theorem okB_rows : ∀ {d : Nat} {b : List Rw}, okB d b → ∀ x ∈ rowsB b, (∃ e, okR e x) ∧ depR x ≤ depB b
  | d, [], _, x, hx => nomatch hx
  | d, r :: b, h, x, hx => by
    rcases List.mem_append.mp hx with hx | hx
    · have := okR_rows h.1 x hx
      exact ⟨this.1, Nat.le_trans this.2 (Nat.le_max_left _ _)⟩
    · have := okB_rows h.2 x hx
      exact ⟨this.1, Nat.le_trans this.2 (Nat.le_max_right _ _)⟩
end
theorem Good.dep {b : List Rw} (G : Good b) : depB b ≤ 3 := by
  have := ok_depB G.ok (by decide)
  omega

/-- what is due of a text -/
theorem due_of (tx : Str) : ∃ ls last o, Txt.split tx lfS = ls ++ [last] ∧ ls.length ≤ tx.length ∧ (∀ b, readE ls last = .ok b → BadIs (.tup (bD b)) o) ∧ SeqAt.shaped (dueD (readE ls last) o) = true ∧ PyData.eqv (dueD (readE ls last) o) (dueD (readE ls last) o) = true := by
  obtain ⟨ls, last, e, hl, _⟩ := split_last tx
  have fin : ∀ {d : PyData}, d.canLay0 = true → d.depth ≤ 64 → SeqAt.shaped d = true ∧ PyData.eqv d d = true := fun h1 h2 => ⟨by
    show (_ && decide (_ ≤ 64)) = true
    rw [h1, decide_eq_true h2]
    rfl, SeqAt.eqv_refl _ h1⟩
  cases h : readE ls last with
  | error n => exact ⟨ls, last, none, e, hl, (fun b hb => by rw [h] at hb; cases hb), by rw [h]; exact fin (by simp [dueD, PyData.canLay0, PyData.canLayAll0] <;> decide +kernel) (by simp [dueD, PyData.depth, PyData.depthAll])⟩
  | ok b =>
    obtain ⟨o, ho⟩ := BadIs.any (.tup (bD b))
    refine ⟨ls, last, o, e, hl, (fun b' hb => by rw [h] at hb; cases hb; exact ho), ?_⟩
    rw [h]
    cases o with
    | some i => exact fin (by simp [dueD, PyData.canLay0, PyData.canLayAll0] <;> decide +kernel) (by simp [dueD, PyData.depth, PyData.depthAll])
    | none =>
      have G : Good b := by
        generalize hx : Dt.tup (bD b) = x at ho
        cases ho with
        | good h g =>
          injection hx with hx
          rw [bD_inj hx]
          exact g
      have h1 := lay_dB G.ok
      have h2 := dep_dB b
      have h3 := G.dep
      exact fin (by simp [dueD, PyData.canLay0, PyData.canLayAll0, h1] <;> decide +kernel) (by simp [dueD, PyData.depth, PyData.depthAll] <;> omega)
end PM
set_option Elab.async false
set_option linter.all false
set_option maxRecDepth 100000
set_option maxHeartbeats 4000000
/-! The law. -/
namespace K05
open PySem PySem.Spec PyProof.Rows L2 ZX PM ZR ZT TL
abbrev sLaw : Stmt := top 65
def spLaw (K : PySem.W.Frag) : Sp := fun vs H Q _ => ∃ (a : Addr) (ns : List Int), vs = [.ref a] ∧ SqL K H a (ns.map V.int) ∧ ns.length ≤ 63 ∧ ∀ H', Q (.bl true) H'
structure Ctx5 (P : Program) (w : World) (K : PySem.W.Frag) (mg : Str → Option Value) (base : Heap) (C : Addr) : Prop where
  bi : Bi mg
  hand : Cal P w K mg base "_law_hand" 1 ["_law_script"] (spHand K)
  draw : Cal P w K mg base "_law_draw" 1 ["_law_hand_here", "_law_many"] spDraw
  deep : Cal P w K mg base "_law_deep" 2 ["_law_hand_here"] (spDeepS K)
  drawn : Cal P w K mg base "_law_drawn" 10 ["_law_hand_here"] (spLDrawn K)
  lines : Cal P w K mg base "_law_lines" 5 ["_law_block_here", "_law_deep_here"] (spLLines K 4)
  changed : Cal P w K mg base "_law_changed" 3 ["_law_hand_here", "_law_text"] spLChanged
  nested : Cal P w K mg base "_law_nested" 3 ["_law_hand_here"] spLNested
  told : Cal P w K mg base "_law_told" 19 ["_law_text"] (spLDue K)
  due : Cal P w K mg base "_law_due" 8 ["_law_text"] (spLDue K)
abbrev LN : List Str := ["_law_script", "_law_hand_here", "_law_turn", "_law_right", "_law_again", "_law_text", "_law_change", "_law_deep_here", "_law_odd", "_law_line"]
/-- how long a text is after so many changes -/
theorem good_nil : Good [] := ⟨trivial, by decide, by decide, fun ys h => by
  cases ys with
  | nil => decide
  | cons y ys => exact absurd ((h.me y).mp List.mem_cons_self) (fun m => nomatch m)⟩
def bnd : Nat → Nat
  | 0 => 4300
  | 1 => 8700
  | 2 => 17500
  | _ => 35100
theorem bnd_le : ∀ i, bnd i ≤ 35100
  | 0 => by decide
  | 1 => by decide
  | 2 => by decide
  | _ + 3 => Nat.le_refl _
theorem bnd_step : ∀ i, i < 3 → 2 * bnd i + 100 ≤ bnd (i + 1) ∧ bnd i ≤ 20000 := by decide
theorem NoStr.kd {K : PySem.W.Frag} {H H' : Hp} {v : V} (k : Kd H H') (h : NoStr K H v) : NoStr K H' v := by
  obtain ⟨t, h, e⟩ := h
  cases h with
  | base b =>
    cases b with
    | non => exact ⟨_, .base .non, e⟩
    | bl x => exact ⟨_, .base (.bl x), e⟩
    | int x => exact ⟨_, .base (.int x), e⟩
    | str x => exact ⟨_, .base (.str x), e⟩
    | flt x => exact ⟨_, .base (.flt x), e⟩
    | lst h => exact (k _ _ h).elim (fun h => ⟨_, .base (.lst h), e⟩) fun ⟨_, _, _, h⟩ => ⟨_, .base (.lst h), e⟩
    | frz h => exact (k _ _ h).elim (fun h => ⟨_, .base (.frz h), e⟩) fun ⟨_, _, z, _⟩ => nomatch z
    | tup h => exact (k _ _ h).elim (fun h => ⟨_, .base (.tup h), e⟩) fun ⟨_, _, z, _⟩ => nomatch z
    | dK h => exact (k _ _ h).elim (fun h => ⟨_, .base (.dK h), e⟩) fun ⟨_, _, z, _⟩ => nomatch z
    | dT h => exact (k _ _ h).elim (fun h => ⟨_, .base (.dT h), e⟩) fun ⟨_, _, z, _⟩ => nomatch z
    | ins h cl ha hn ht hm => exact (k _ _ h).elim (fun h => ⟨_, .base (.ins h cl ha hn ht hm), e⟩) fun ⟨_, _, z, _⟩ => nomatch z
  | byt b => exact ⟨_, .byt b, e⟩
  | set h => exact (k _ _ h).elim (fun h => ⟨_, .set h, e⟩) fun ⟨_, _, z, _⟩ => nomatch z
  | kList h c => exact ⟨_, .kList h c, e⟩
  | kTuple h c => exact ⟨_, .kTuple h c, e⟩
  | kDict h c => exact ⟨_, .kDict h c, e⟩
  | fTuple h => exact (k _ _ h).elim (fun h => ⟨_, .fTuple h, e⟩) fun ⟨_, _, z, _⟩ => nomatch z
  | fDict h => exact (k _ _ h).elim (fun h => ⟨_, .fDict h, e⟩) fun ⟨_, _, z, _⟩ => nomatch z
section
variable {P : Program} {w : World} {K : PySem.W.Frag} {mg : Str → Option Value} {base : Heap}
theorem scLLaw : FnScope LN ["_law_script"] (defScope sLaw) := ⟨rfl, rfl, rfl, by decide +kernel, rfl, by decide +kernel, by decide +kernel⟩
/-- between two turns -/
def LawS (a p c : Addr) (σ : L2.St) (H : Hp) : Prop := ∃ (y2 y3 y4 y5 y6 y7 y8 : Option V), σ = [some (.ref a), some (.ref p), y2, y3, y4, y5, y6, y7, y8, none] ∧ HandAt H p c
theorem ok_law {C g : Addr} {fd : FuncData} {lv : Nat} (O : OthC K C) (F : FnP K "law" sLaw g fd) (T : Ctx5 P w K mg base C) (mk : ClsMk P w K mg base CX0 "Program" C lv ["self", "block"] (spInit K C)) (hlv : lv + 1 ≤ 19) : FnOk P w K mg base CX0 20 g fd ["_law_script"] (spLaw K) := by
  refine F.ok scLLaw (fun vs H Q E h => ?_) (fun cdv A outer s H vs Q E hr h => ?_)
  · obtain ⟨a, ns, rfl, _⟩ := h
    rfl
  · obtain ⟨a, ns, rfl, hS, hns, k⟩ := h
    obtain ⟨fI, fdI, M, GI, bI, gP⟩ := mk.ex
    have hr1 := hr.mono (show 1 ≤ 19 by decide)
    have hr2 := hr.mono (show 2 ≤ 19 by decide)
    have hr3 := hr.mono (show 3 ≤ 19 by decide)
    have hr5 := hr.mono (show 5 ≤ 19 by decide)
    have hr8 := hr.mono (show 8 ≤ 19 by decide)
    have hr10 := hr.mono (show 10 ≤ 19 by decide)
    have hrm := hr.mono hlv
    refine ⟨_, PSs.nox (pss_cut (ps_set (i := 1) scLLaw.nd rfl (Or.inl rfl) (pcal T.hand hr1 rfl (pa_cons (pv 0) pa_nil)))
    (pss_cut (ps_for PassesOwn.never rfl (pi_range1 rfl T.bi.b_range (pa_cons pe_int pa_nil)) (pg_name (i := 2) scLLaw.nd rfl (Or.inl rfl)) (pss_cut (ps_set (i := 3) scLLaw.nd rfl (Or.inl rfl) (pe_join pe_str (pe_lcS (own := [("_law_line", 9)]) (g := gName 9) (tt := tYes) (by rfl) scLLaw.nd (pi_list (pcal T.lines hr5 rfl (pa_cons (pcal T.drawn hr10 rfl (pa_cons (pv 1) pa_nil)) (pa_cons pe_int pa_nil)))) (blkOk_by (N := LN) (sc := defScope sLaw) (by decide +kernel)) (fun _ _ _ _ _ => (pg_name (i := 9) scLLaw.nd rfl (Or.inl rfl))) (fun _ _ _ _ _ => pts_nil) (fun _ _ _ _ _ => (pe_op op_add_str (pv 9) pe_str)))))
      (pss_one (ps_for PassesOwn.never rfl (pi_range1 rfl T.bi.b_range (pa_cons pe_int pa_nil)) (pg_name (i := 4) scLLaw.nd rfl (Or.inl rfl)) (pss_cut (ps_set (i := 5) scLLaw.nd rfl (Or.inl rfl) (pv 3))
        (pss_cut (ps_for PassesOwn.never rfl (pi_range1 rfl T.bi.b_range (pa_cons (pe_op op_add pe_int (pcal T.draw hr1 rfl (pa_cons (pv 1) (pa_cons pe_int pa_nil)))) pa_nil)) (pg_name (i := 6) scLLaw.nd rfl (Or.inl rfl)) (pss_one (ps_set (i := 5) scLLaw.nd rfl (Or.inl rfl) (pcal T.changed hr3 rfl (pa_cons (pv 1) (pa_cons (pv 5) pa_nil))))))
        (pss_one (ps_if (pt_cmpR (op_neD hr.units) (pcal T.told hr rfl (pa_cons (pv 5) pa_nil)) (pcal T.due hr8 rfl (pa_cons (pv 5) pa_nil)) (nomark _)) (pss_one (ps_ret pe_bl)) pss_nil))))))))
    (pss_cut (ps_set (i := 7) scLLaw.nd rfl (Or.inl rfl) (pcal T.nested hr3 rfl (pa_cons (pv 1) pa_nil)))
    (pss_cut (ps_if (pt_cmpR (op_neD hr.units) (pcal T.told hr rfl (pa_cons (pv 7) pa_nil)) (pcal T.due hr8 rfl (pa_cons (pv 7) pa_nil)) (nomark _)) (pss_one (ps_ret pe_bl)) pss_nil)
    (pss_cut (ps_set (i := 8) scLLaw.nd rfl (Or.inl rfl) (pe_lst (pa_cons pe_non (pa_cons pe_int (pa_cons pe_bl (pa_cons (pe_lst (pa_cons (pv 3) pa_nil)) (pa_cons (pe_tup (pa_cons (pv 3) pa_nil)) (pa_cons pe_dnewK (pa_cons (pcal T.deep hr2 rfl (pa_cons (pv 1) pa_nil)) (pa_cons (pe_make M GI hrm rfl gP bI .nil pass0 (pa_cons (pe_tup pa_nil) pa_nil)) (pa_cons (pe_op op_pow pe_int pe_int) pa_nil)))))))))))
    (pss_one (ps_ret (pe_and (pe_cmpR (op_eqD hr.units) (pcal T.told hr rfl (pa_cons (pe_ix ix_list (pv 8) (pcal T.draw hr1 rfl (pa_cons (pv 1) (pa_cons pe_int pa_nil))) (fun _ _ => rfl)) pa_nil)) (pe_tup (pa_cons pe_str (pa_cons pe_int pa_nil))) (nomark _)) (pe_one (pe_cmpR (op_eqD hr.units) (pcal T.told hr rfl (pa_cons pe_str pa_nil)) (pe_tup (pa_cons pe_str (pa_cons (pe_tup pa_nil) pa_nil))) (nomark _))))))))))), ?_⟩
    have h1n : lfS.length = 1 := by decide +kernel
    have h0n : ("" : Str).length = 0 := by decide +kernel
    refine ⟨fun σ' H' => ∃ p c, σ' = [some (.ref a), some (.ref p), none, none, none, none, none, none, none, none] ∧ HandAt H' p c, ?_, ?_⟩
    · exact ⟨_, rfl, a, ns, rfl, hS, hns, fun p c H1 hh1 s1 np => ⟨p, c, rfl, hh1⟩⟩
    rintro σ1 H1 ⟨p, c, rfl, hh1⟩
    have nep : ∀ {G : Hp} {z : Addr}, HandAt G p c → G z = none → z ≠ p := fun hg n => by
      obtain ⟨o, e⟩ := hg.some
      exact (ne_of_none e n).symm
    refine ⟨fun σ' H' => ∃ y2 y4 y5 y6 rt, σ' = [some (.ref a), some (.ref p), y2, some (.str rt), y4, y5, y6, none, none, none] ∧ HandAt H' p c, ?_, ?_⟩
    · refine ⟨_, rfl, by decide, by decide, ?_⟩
      refine for_range (fun i σ' H' => ∃ y2 y3 y4 y5 y6, σ' = [some (.ref a), some (.ref p), y2, y3, y4, y5, y6, none, none, none] ∧ HandAt H' p c ∧ (1 ≤ i → ∃ rt, y3 = some (.str rt))) ⟨_, _, _, _, _, rfl, hh1, fun h => absurd h (by decide)⟩ ?_ (fun _ _ h => by
        obtain ⟨y2, y3, y4, y5, y6, e, hg, h1⟩ := h
        obtain ⟨rt, rfl⟩ := h1 (by decide)
        exact ⟨y2, y4, y5, y6, rt, e, hg⟩)
      rintro i σ3 H3 hi ⟨y2, y3, y4, y5, y6, rfl, hh3, _⟩
      refine ⟨fun σ' H' => ∃ y2 rt, σ' = [some (.ref a), some (.ref p), y2, some (.str rt), y4, y5, y6, none, none, none] ∧ HandAt H' p c ∧ rt.length ≤ 4300, ?_, ?_⟩
      · refine ⟨⟨_, rfl⟩, lc_into ?_⟩
        refine ⟨_, rfl, p, c, rfl, hh3, fun v b H4 hh4 k4 tv G l28 gv => ?_⟩
        have sm : ∀ r ∈ rowsB b, smallR r := fun r hr => by
          have h := gv r hr
          cases r with
          | give x i => exact Nat.lt_trans (show i.natAbs < 10 ^ 30 from h) (by decide)
          | _ => trivial
        have hdep : depB b ≤ 3 := by
          have := ok_depB G.ok (by decide)
          omega
        have hmany := linB_many b 0
        refine ⟨v, 0, 1, b, rfl, tv, by omega, by omega, G.ok, sm, by omega, fun l H5 s5 nl hp => ⟨l, rfl, ⟨_, SqL.of hp⟩, ?_⟩⟩
        have hz2 : ∀ t ∈ linB 0 b, t.length ≤ 70 := fun t ht => by
          have := linB_len b 0 G.ok sm t ht
          omega
        refine lc_overA (p := none) (as := linB 0 b) (Rel := fun _ t y => y = .str (t ++ lfS)) it_list (by rw [List.length_map]) (fun _ _ _ _ _ h => h) (fun _ h => nomatch h) (by rw [List.length_map]; exact Nat.lt_of_le_of_lt (show (linB 0 b).length ≤ 2000 by omega) (by decide)) (fun H' kq _ => SqL.of (kq.same _ _ hp)) ?_ ?_
        · intro m y t hy ht' H6 kq pt R k
          rw [List.getElem?_map, ht'] at hy
          cases hy
          have := hz2 t (List.mem_of_getElem? ht')
          exact ⟨rfl, _, rfl, t, _, rfl, rfl, Nat.le_trans (show _ ≤ 1000 by rw [show (Str.ofString "\n").length = 1 from h1n]; omega) (by decide), k _ _ Kq.refl (Pt.refl _) rfl⟩
        · intro D2 ys2 H6 kq pt nD2 hD2 all2
          have e := All2.map all2
          have hs := sum_len (linB 0 b) hz2
          have hsm : (((linB 0 b).map fun t => t ++ lfS).map (·.length)).sum + ((linB 0 b).map fun t => t ++ lfS).length * ("" : Str).length ≤ 4300 := by
            rw [h0n, Nat.mul_zero, Nat.add_zero]
            omega
          exact ⟨_, D2, (linB 0 b).map (fun t => t ++ lfS), rfl, rfl, .inl (SqL.of (by rw [hD2, e, List.map_map]; rfl)), Nat.le_trans hsm (by decide), _, _, rfl, hh4.kp (s5.trans kq.same), Nat.le_trans (jn_len _ _) hsm⟩
      rintro σ4 H4 ⟨y2, rt, rfl, hh4, hrt⟩
      refine ⟨_, rfl, by decide, by decide, ?_⟩
      refine for_range (fun _ σ' H' => ∃ y4 y5 y6, σ' = [some (.ref a), some (.ref p), y2, some (.str rt), y4, y5, y6, none, none, none] ∧ HandAt H' p c) ⟨_, _, _, rfl, hh4⟩ ?_ (fun _ _ h => by
        obtain ⟨y4, y5, y6, e, hg⟩ := h
        exact ⟨_, _, _, _, _, e, hg, fun _ => ⟨rt, rfl⟩⟩)
      rintro j σ5 H5 hj ⟨y4, y5, y6, rfl, hh5⟩
      refine ⟨fun σ' H' => ∃ y4, σ' = [some (.ref a), some (.ref p), y2, some (.str rt), y4, some (.str rt), y6, none, none, none] ∧ HandAt H' p c, ?_, ?_⟩
      · exact ⟨_, rfl, _, rfl, hh5⟩
      rintro σ6 H6 ⟨y4, rfl, hh6⟩
      refine ⟨fun σ' H' => ∃ y6 tx, σ' = [some (.ref a), some (.ref p), y2, some (.str rt), y4, some (.str tx), y6, none, none, none] ∧ HandAt H' p c ∧ tx.length ≤ 36000, ?_, ?_⟩
      · refine ⟨_, rfl, p, c, 3, rfl, hh6, by decide, by decide, fun d H7 d0 d1 hh7 ch => ?_⟩
        refine ⟨_, _, rfl, rfl, _, rfl, by omega, by omega, ?_⟩
        refine for_range (fun i σ' H' => ∃ y6 tx, σ' = [some (.ref a), some (.ref p), y2, some (.str rt), y4, some (.str tx), y6, none, none, none] ∧ HandAt H' p c ∧ tx.length ≤ bnd i) ⟨_, rt, rfl, hh7, hrt⟩ ?_ (fun _ _ h => by
          obtain ⟨y6, tx, e, hg, hb⟩ := h
          exact ⟨y6, tx, e, hg, Nat.le_trans (Nat.le_trans hb (bnd_le _)) (by decide)⟩)
        rintro m σ8 H8 hm ⟨y6, tx, rfl, hh8, htx⟩
        obtain ⟨b1, b2⟩ := bnd_step m (by omega)
        exact ⟨_, rfl, _, rfl, p, c, tx, rfl, hh8, Nat.le_trans htx b2, fun y H9 hy hh9 => ⟨_, y, rfl, hh9, by omega⟩⟩
      rintro σ7 H7 ⟨y6, tx, rfl, hh7, htx⟩
      obtain ⟨ls, last, o, hsp, hls, hB, sh, eq⟩ := due_of tx
      refine ⟨_, rfl, .str tx, rfl, .inr ⟨tx, ls, last, o, rfl, by omega, hsp, by omega, hB, fun u H8 s8 tu => ?_⟩⟩
      refine ⟨_, rfl, .str tx, rfl, .inr ⟨tx, ls, last, o, rfl, by omega, hsp, by omega, hB, fun u2 H9 s9 tu2 => ?_⟩⟩
      refine ⟨_, _, (Tv.pt s9.pt tu).dp, tu2.dp, sh, sh, ?_⟩
      rw [eq]
      refine ⟨_, rfl, ?_⟩
      exact ite2 (fun e => absurd e (by decide)) (fun _ => ⟨_, _, _, rfl, hh7.kp (s8.trans s9)⟩)
    rintro σ2 H2 ⟨y2, y4, y5, y6, rt, rfl, hh2⟩
    refine ⟨fun σ' H' => ∃ nx, σ' = [some (.ref a), some (.ref p), y2, some (.str rt), y4, y5, y6, some (.str nx), none, none] ∧ HandAt H' p c ∧ nx.length ≤ 36000, ?_, ?_⟩
    · exact ⟨_, rfl, p, c, rfl, hh2, fun x H3 hx hh3 => ⟨x, rfl, hh3, hx⟩⟩
    rintro σ3 H3 ⟨nx, rfl, hh3, hnx⟩
    refine ⟨fun σ' H' => σ' = [some (.ref a), some (.ref p), y2, some (.str rt), y4, y5, y6, some (.str nx), none, none] ∧ HandAt H' p c, ?_, ?_⟩
    · obtain ⟨ls, last, o, hsp, hls, hB, sh, eq⟩ := due_of nx
      refine ⟨_, rfl, .str nx, rfl, .inr ⟨nx, ls, last, o, rfl, by omega, hsp, by omega, hB, fun u H8 s8 tu => ?_⟩⟩
      refine ⟨_, rfl, .str nx, rfl, .inr ⟨nx, ls, last, o, rfl, by omega, hsp, by omega, hB, fun u2 H9 s9 tu2 => ?_⟩⟩
      refine ⟨_, _, (Tv.pt s9.pt tu).dp, tu2.dp, sh, sh, ?_⟩
      rw [eq]
      refine ⟨_, rfl, ?_⟩
      exact ite2 (fun e => absurd e (by decide)) (fun _ => ⟨rfl, hh3.kp (s8.trans s9)⟩)
    rintro σ4 H4 ⟨rfl, hh4⟩
    refine ⟨fun σ' H' => ∃ l us, σ' = [some (.ref a), some (.ref p), y2, some (.str rt), y4, y5, y6, some (.str nx), some (.ref l), none] ∧ HandAt H' p c ∧ l ≠ p ∧ H' l = some (.lst us) ∧ us.length = 9 ∧ ∀ v ∈ us, NoStr K H' v, ?_, ?_⟩
    · refine ⟨_, rfl, by show 1 ≤ sizeLine; decide, fun l1 n1 => ⟨_, rfl, by show 1 ≤ sizeLine; decide, fun t1 nt1 => ?_⟩⟩
      intro d nd
      have s1 := same_new (o := .lst [V.str rt]) n1
      have s2 := same_new (o := .tup [V.str rt]) nt1
      have s3 := same_new (o := .dK []) nd
      have hhD := hh4.kp ((s1.trans s2).trans s3)
      refine ⟨_, rfl, p, c, rfl, hhD, fun dv H5 hh5 k5 nos => ?_⟩
      have kd5 := hand_kd hhD hh5 k5
      refine ⟨by decide, fun t nt x dx nx ndx nxd => ?_⟩
      have s4 := same_new (o := .tup []) nt
      have hnew : Same (upd H5 t (.tup [])) (upd (upd (upd H5 t (.tup [])) dx (.own x)) x (.ins C dx [])) := fun z o e => by
        rw [upd_ne (ne_of_none e nx), upd_ne (ne_of_none e ndx)]
        exact e
      refine ⟨x, dx, .ref t, [], rfl, upd_same, .tup (.inl (.inl (hnew _ _ upd_same))) .nil, good_nil, fun G5 k6 p5 pr5 => ?_⟩
      refine ⟨rfl, _, _, rfl, rfl, ⟨by decide, by decide, by decide⟩, by show 9 ≤ sizeLine; decide, fun l nl => ?_⟩
      have s5 : Same (upd H5 t (.tup [])) G5 := fun z o e => k6 z o (ne_of_none e nx) (hnew _ _ e)
      have s6 := same_new (o := .lst [V.non, V.int 0, V.bl true, .ref l1, .ref t1, .ref d, dv, .ref x, V.int ((10 : Int) ^ (29 : Int).toNat)]) nl
      have s46 := (s4.trans s5).trans s6
      refine ⟨l, _, rfl, hh5.kp s46, nep (hh5.kp (s4.trans s5)) nl, upd_same, rfl, fun v hv => ?_⟩
      have kdA := kd5.trans s46.kd
      simp only [List.mem_cons, List.not_mem_nil, or_false] at hv
      rcases hv with rfl | rfl | rfl | rfl | rfl | rfl | rfl | rfl | rfl
      · exact ⟨_, .base .non, rfl⟩
      · exact ⟨_, .base (.int _), rfl⟩
      · exact ⟨_, .base (.bl _), rfl⟩
      · exact NoStr.kd ((s2.trans s3).kd.trans kdA) ⟨_, .base (.lst upd_same), rfl⟩
      · exact NoStr.kd (s3.kd.trans kdA) ⟨_, .base (.tup upd_same), rfl⟩
      · exact NoStr.kd kdA ⟨_, .base (.dK upd_same), rfl⟩
      · exact nos.kd s46.kd
      · obtain ⟨dx, vb, ra, na, la, rs, ls, yn, hx, _⟩ := id pr5
        exact ⟨_, O.ty (s6 _ _ hx), one_no O.st (by decide +kernel)⟩
      · exact ⟨_, .base (.int _), rfl⟩
    rintro σ5 H5 ⟨l, us, rfl, hh5, nlp, hl5, hn5, ho5⟩
    refine ⟨_, rfl, _, rfl, p, c, 9, rfl, hh5, by decide, by decide, fun d H6 d0 d9 hh6 ch => ?_⟩
    have hd : d.toNat < us.length := by omega
    have hat : atI us d = some us[d.toNat] := at_of (j := d.toNat) (by omega) (List.getElem?_eq_getElem hd)
    have hno := (ho5 _ (List.getElem_mem hd)).kd (hand_kd hh5 hh6 ch.kp)
    refine ⟨l, us, d, _, rfl, rfl, SqL.of (ch.kp _ _ nlp hl5), hat, ?_⟩
    refine ⟨_, rfl, .inl ⟨hno, fun u H7 s7 tu => ⟨by show 2 ≤ sizeLine; decide, fun q nq => ?_⟩⟩⟩
    have sq := same_new (o := .tup [V.str "line", V.int 0]) nq
    have tq : Tv K (upd H7 q (.tup [V.str "line", V.int 0])) (.ref q) (.tuple [.str "line", .int 0]) := .tup (.inl (.inl upd_same)) (.cons (.str _) (.cons (.int _) .nil))
    refine ⟨_, _, (Tv.pt sq.pt tu).dp, tq.dp, by decide +kernel, by decide +kernel, ?_⟩
    rw [show PyData.eqv (.tuple [.str "line", .int 0]) (.tuple [.str "line", .int 0]) = true from SeqAt.eqv_refl _ (by decide +kernel)]
    refine ⟨_, rfl, ifB rfl ?_⟩
    have hsp : Txt.split ("" : Str) lfS = [] ++ [("" : Str)] := by decide +kernel
    have hrd : readE [] ("" : Str) = .ok [] := by
      have h0 : ("" : Str) = Str.empty := by decide +kernel
      rw [h0]
      rfl
    refine ⟨_, rfl, .inr ⟨"", [], "", none, rfl, by decide +kernel, hsp, Nat.zero_le _, fun b hb => ?_, fun u8 H8 s8 tu8 => ⟨by decide, fun q1 nq1 => ⟨by show 2 ≤ sizeLine; decide, fun q2 nq2 => ?_⟩⟩⟩⟩
    · rw [hrd] at hb
      cases hb
      exact .good (b := []) (m := 0) rfl good_nil
    rw [hrd] at tu8
    have sq1 := same_new (o := .tup []) nq1
    have sq2 := same_new (o := .tup [V.str "block", V.ref q1]) nq2
    have tq2 : Tv K (upd (upd H8 q1 (.tup [])) q2 (.tup [V.str "block", V.ref q1])) (.ref q2) (.tuple [.str "block", .tuple []]) := .tup (.inl (.inl upd_same)) (.cons (.str _) (.cons (.tup (.inl (.inl (sq2 _ _ upd_same))) .nil) .nil))
    have tu9 := Tv.pt (sq1.trans sq2).pt tu8
    refine ⟨_, _, tu9.dp, tq2.dp, by decide +kernel, by decide +kernel, ?_⟩
    rw [show PyData.eqv (dueD (.ok []) none) (.tuple [.str "block", .tuple []]) = true from SeqAt.eqv_refl _ (by decide +kernel)]
    exact k _
end
end K05
set_option Elab.async false
set_option linter.all false
set_option maxRecDepth 100000
set_option maxHeartbeats 4000000
namespace ZX
open PySem PySem.Spec PyProof.Rows L2
/-! ### a Hook: facts, defs, and one Bool more -/
structure SaysB (fa : List He.Fa) (fn : List He.DefD) (ex : PySem.W.Frag → Bool) (K : PySem.W.Frag) : Prop where
  d : He.SaysD fa fn K
  more : ex K = true
abbrev AlB : Type := He.AlD × Bool
def obsB (fa : List He.Fa) (fn : List He.DefD) (ex : PySem.W.Frag → Bool) (K : PySem.W.Frag) : AlB := (He.obsD fa fn K, ex K)
def obsBG (n : Nat) (fa : List He.Fa) (fn : List He.DefD) (ex : PySem.W.Frag → Bool) (g : Addr → Option Obj) : AlB := obsB fa fn ex (He.frG g (He.asD g n))
def valB (fn : List He.DefD) : AlB := (He.valD fn, true)
def hookB (n : Nat) (fa : List He.Fa) (fn : List He.DefD) (ex : PySem.W.Frag → Bool) : PySem.W.Hook where
  α := AlB
  obs := fun s => obsBG n fa fn ex s.heap.get?
  val := fun _ => valB fn
  says := fun _ h => ∃ K : PySem.W.Frag, K.In h ∧ SaysB fa fn ex K
  of := fun _ _ e => ⟨_, He.frG_in, congrArg (fun z : AlB => z.1) e, congrArg (fun z : AlB => z.2) e⟩
  keeps := fun _ _ _ ⟨K, hK, c⟩ k => ⟨K, PySem.W.Frag.In.keeps hK k, c⟩
theorem obsBG_eq {n : Nat} {fa : List He.Fa} {fn : List He.DefD} {ex : PySem.W.Frag → Bool} {g : Addr → Option Obj} {s : Shared} (h : ∀ a, g a = s.heap.get? a) : obsBG n fa fn ex g = (hookB n fa fn ex).obs s := by
  have e : g = s.heap.get? := funext h
  rw [e] <;> rfl
/-! ### own exception classes over one own class over ValueError -/
/-- the class x has the chain x, base, ValueError .. and its own dict -/
def clsB (K : PySem.W.Frag) (base x : Str) : Bool := match K.lookup (He.ga K x) with
  | some ⟨.type "type", _, .cls cd, sl⟩ => (match sl.toList with
    | [_, _, _, _, some (.builtin n), _] => decide (cd.mro = [.ref (He.ga K x), .ref (He.ga K base), .type "ValueError", .type "Exception", .type "BaseException", .type "object"]) && (n == "ValueError.__new__" && (!cd.hasDel && cd.hasDict))
    | _ => false)
  | _ => false
theorem clsB_ok {K : PySem.W.Frag} {base x : Str} (h : clsB K base x = true) : ∃ nm q N bs sn sub ab col dd k0 k1 k2 k3 k5,
    K.lookup (He.ga K x) = some (excClassObj nm q (He.ga K x) N bs [.ref (He.ga K base), .type "ValueError", .type "Exception", .type "BaseException", .type "object"] true sn sub ab col dd k0 k1 k2 k3 k5 "ValueError.__new__") := by
  unfold clsB at h
  split at h
  · rename_i dd cd sl ho
    split at h
    · rename_i k0 k1 k2 k3 n k5 hs
      obtain ⟨h1, h⟩ := Bool.and_eq_true_iff.mp h
      obtain ⟨h2, h⟩ := Bool.and_eq_true_iff.mp h
      obtain ⟨h3, h4⟩ := Bool.and_eq_true_iff.mp h
      have hm := of_decide_eq_true h1
      have hn := eq_of_beq h2
      obtain ⟨nm, bs, mro, ns, qn, hd, sn, sb, ab, col, del⟩ := cd
      dsimp only at hm h3 h4
      subst hm hn h4
      have hdel : del = false := by
        cases del with
        | false => rfl
        | true => cases h3
      subst hdel
      have hsl : sl = #[k0, k1, k2, k3, some (.builtin "ValueError.__new__"), k5] := by
        obtain ⟨l⟩ := sl
        simp only at hs
        rw [hs]
      subst hsl
      exact ⟨nm, qn, ns, bs, sn, sb, ab, col, dd, k0, k1, k2, k3, k5, ho⟩
    · cases h
  · cases h
def opB (a b : Option (Option Value)) : Bool := decide (a = b)
/-- all that the walk asks of such a class, whose __init__ is its own -/
def ecB (K : PySem.W.Frag) (base x : Str) : Bool := clsB K base x && (opB (PySem.W.findIn K (.ref (He.ga K x)) "__setattr__") (some (some (.builtin "object.__setattr__"))) &&
  (PySem.W.keepIn K (.ref (He.ga K x)) && (opB (PySem.W.findIn K (.ref (He.ga K x)) "__init__") (some (some (.ref (He.ma K (He.ga K x) "__init__")))) &&
  (decide (PySem.W.typeIn K (.ref (He.ma K (He.ga K x) "__init__")) = some (.type "function")) && (opB (PySem.W.findIn K (.ref (He.ga K x)) "__getattribute__") (some (some (.builtin "BaseException.__getattribute__"))) &&
  (opB (PySem.W.findIn K (.ref (He.ga K x)) "__getattr__") (some none) && opB (PySem.W.findIn K (.ref (He.ga K x)) "__class__") (some (some (.builtin "object.__class__")))))))))
structure EcC (K : PySem.W.Frag) (base x : Str) : Prop where
  cls : ∃ nm q N bs sn sub ab col dd k0 k1 k2 k3 k5,
    K.lookup (He.ga K x) = some (excClassObj nm q (He.ga K x) N bs [.ref (He.ga K base), .type "ValueError", .type "Exception", .type "BaseException", .type "object"] true sn sub ab col dd k0 k1 k2 k3 k5 "ValueError.__new__")
  sa : PySem.W.findIn K (.ref (He.ga K x)) "__setattr__" = some (some (.builtin "object.__setattr__"))
  kC : PySem.W.keepIn K (.ref (He.ga K x)) = true
  iC : PySem.W.findIn K (.ref (He.ga K x)) "__init__" = some (some (.ref (He.ma K (He.ga K x) "__init__")))
  tI : PySem.W.typeIn K (.ref (He.ma K (He.ga K x) "__init__")) = some (.type "function")
  ga : PySem.W.findIn K (.ref (He.ga K x)) "__getattribute__" = some (some (.builtin "BaseException.__getattribute__"))
  gg : PySem.W.findIn K (.ref (He.ga K x)) "__getattr__" = some none
  kc : PySem.W.findIn K (.ref (He.ga K x)) "__class__" = some (some (.builtin "object.__class__"))
theorem ecB_ok {K : PySem.W.Frag} {base x : Str} (h : ecB K base x = true) : EcC K base x := by
  obtain ⟨h1, h⟩ := Bool.and_eq_true_iff.mp h
  obtain ⟨h2, h⟩ := Bool.and_eq_true_iff.mp h
  obtain ⟨h3, h⟩ := Bool.and_eq_true_iff.mp h
  obtain ⟨h4, h⟩ := Bool.and_eq_true_iff.mp h
  obtain ⟨h5, h⟩ := Bool.and_eq_true_iff.mp h
  obtain ⟨h6, h⟩ := Bool.and_eq_true_iff.mp h
  obtain ⟨h7, h8⟩ := Bool.and_eq_true_iff.mp h
  exact ⟨clsB_ok h1, of_decide_eq_true h2, h3, of_decide_eq_true h4, of_decide_eq_true h5, of_decide_eq_true h6, of_decide_eq_true h7, of_decide_eq_true h8⟩
section
variable {K : PySem.W.Frag} {base x : Str}
theorem EcC.cd (E : EcC K base x) : ∃ cd, PySem.W.clsIn K (He.ga K x) = some cd ∧ cd.mro = [.ref (He.ga K x), .ref (He.ga K base), .type "ValueError", .type "Exception", .type "BaseException", .type "object"] ∧ cd.hasDict = true := by
  obtain ⟨nm, q, N, bs, sn, sub, ab, col, dd, k0, k1, k2, k3, k5, h⟩ := E.cls
  refine ⟨{ name := nm, bases := bs, mro := [.ref (He.ga K x), .ref (He.ga K base), .type "ValueError", .type "Exception", .type "BaseException", .type "object"], ns := N, qualname := q, hasDict := true, slotNames := sn, subclasses := sub, abstract := ab, collection := col, hasDel := false }, ?_, rfl, rfl⟩
  unfold PySem.W.clsIn
  rw [h]
theorem EcC.mro (E : EcC K base x) (v : Value) : PySem.W.mroIn K (He.ga K x) v = some ([Value.ref (He.ga K x), .ref (He.ga K base), .type "ValueError", .type "Exception", .type "BaseException", .type "object"].contains v) := by
  obtain ⟨cd, h, hm, _⟩ := E.cd
  unfold PySem.W.mroIn
  rw [h, Option.bind_some, hm]
  rfl
theorem EcC.exC (E : EcC K base x) : PySem.W.subIn K (.ref (He.ga K x)) (.type "BaseException") = some true := by
  show PySem.W.mroIn K (He.ga K x) (.type "BaseException") = some true
  rw [E.mro]
  simp
theorem EcC.tyC (E : EcC K base x) : PySem.W.typeIn K (.ref (He.ga K x)) = some (.type "type") := by
  obtain ⟨nm, q, N, bs, sn, sub, ab, col, dd, k0, k1, k2, k3, k5, h⟩ := E.cls
  unfold PySem.W.typeIn
  simp only [h, Option.map_some]
theorem EcC.hd (E : EcC K base x) : PySem.W.hasDictIn K (He.ga K x) = true := by
  obtain ⟨cd, h, _, hd⟩ := E.cd
  unfold PySem.W.hasDictIn
  rw [h]
  simpa using hd
theorem EcC.oex (E : EcC K base x) : OexC K (He.ga K x) := by
  obtain ⟨nm, q, N, bs, sn, sub, ab, col, dd, k0, k1, k2, k3, k5, h⟩ := E.cls
  exact ⟨⟨nm, q, N, bs, _, sn, sub, ab, col, dd, k0, k1, k2, k3, k5, h, by simp only [PySem.HandSPX.refsVE]; decide +kernel⟩, E.sa, E.exC, E.tyC, E.kC⟩
theorem EcC.xf (E : EcC K base x) : XfC K (He.ga K x) := ⟨E.ga, E.gg, E.exC, E.hd⟩
theorem EcC.ec (E : EcC K base x) : L2.ExcC K (He.ga K x) := ⟨E.ga, E.gg, E.exC, E.hd, E.kc, by kernel_rfl, by kernel_rfl, by rw [E.mro]; simp⟩
/-- isinstance against a class of the program -/
theorem EcC.kit (E : EcC K base x) {D : Addr} (hD : (PySem.W.clsIn K D).isSome = true) (tD : PySem.W.typeIn K (.ref D) = some (.type "type")) : PySem.W.kitOne K (.ref (He.ga K x)) (.ref D) = some (decide (D = He.ga K x ∨ D = He.ga K base)) := by
  unfold PySem.W.kitOne
  by_cases e : D = He.ga K x
  · subst e
    rw [if_pos (by simp)]
    simp
  · rw [if_neg (by simpa using fun z => e z.symm)]
    have e2 : ((PySem.W.clsIn K D).isSome && PySem.W.typeIn K (.ref D) == some (.type "type")) = true := by
      rw [hD, tD] <;> rfl
    show (if ((PySem.W.clsIn K D).isSome && PySem.W.typeIn K (.ref D) == some (.type "type")) = true then PySem.W.mroIn K (He.ga K x) (.ref D) else none) = _
    rw [if_pos e2, E.mro]
    simp [e]
theorem EcC.kitV (E : EcC K base x) : PySem.W.kitOne K (.ref (He.ga K x)) (.type "ValueError") = some true := by
  unfold PySem.W.kitOne
  rw [if_neg (by simp)]
  show (if PySem.W.kitMeta "ValueError" = true then PySem.W.mroIn K (He.ga K x) (.type "ValueError") else none) = some true
  rw [if_pos (by decide +kernel), E.mro]
  simp
end
end ZX
set_option Elab.async false
set_option linter.all false
set_option maxRecDepth 100000
set_option maxHeartbeats 0
namespace K05
open PySem PySem.Spec PyProof.Rows L2 ZX
/-! ### the head: facts by names, the run -/
abbrev iBadProgram : Stmt := inClass (top 2) 0
abbrev iBadText : Stmt := inClass (top 3) 0
def dD (x : Str) (st : Stmt) : He.DefD := ⟨(x, none), x, x, defArgs st, defBody st, defScope st, [], []⟩
/-- a def with defaults -/
def dV (x : Str) (st : Stmt) (l : List He.Dv) : He.DefD := ⟨(x, none), x, x, defArgs st, defBody st, defScope st, l, []⟩
def dM (x m q : Str) (st : Stmt) : He.DefD := ⟨(x, some m), m, q, defArgs st, defBody st, defScope st, [], []⟩
def fn : List He.DefD := ([dD "is_integer" sIs_integer, dD "is_number_below" sIs_number_below, dD "is_name" sIs_name, dD "is_parts" sIs_parts, dD "is_block" sIs_block, dV "is_row" sIs_row [.int 0], dD "blocks_of" sBlocks_of, dD "names_of" sNames_of, dD "formless_place" sFormless_place, dD "rows_of" sRows_of, dD "all_names" sAll_names, dD "bad_place" sBad_place, dD "block_leads" sBlock_leads, dD "row_leads" sRow_leads, dD "is_number_text" sIs_number_text, dD "is_integer_text" sIs_integer_text, dD "read_row" sRead_row, dD "read_note" sRead_note, dD "read_with" sRead_with, dD "read_program" sRead_program, dD "_law_hand" sHand, dD "_law_draw" sDraw, dD "_law_any" sAny, dD "_law_plain_row" sLPlain, dD "_law_block" sLBlock] : List He.DefD) ++ ([dD "_law_size" sLSize, dD "_law_drawn" sLDrawn, dD "_law_rows" sLRows, dD "_law_names" sLNames, dD "_law_is_int" sLIsInt, dD "_law_is_name" sLIsName, dD "_law_is_row" sLIsRow, dD "_law_first_wrong" sLFirst, dD "_law_wrong" sLWrong, dD "_law_deep" sDeep, dD "_law_row_text" sLRowText, dD "_law_lines" sLLines, dD "_law_number" sLNumber, dD "_law_plain" sLPlainT, dD "_law_closed" sLClosed, dD "_law_taken" sLTaken, dD "_law_due" sLDue, dD "_law_told" sLTold, dD "_law_changed" sLChanged, dD "_law_nested" sLNested, dD "law" sLaw, dM "Program" "__init__" "Program.__init__" sProgramInit, dM "BadProgram" "__init__" "BadProgram.__init__" iBadProgram, dM "BadText" "__init__" "BadText.__init__" iBadText, dM "Opened" "__init__" "Opened.__init__" sOpInit] : List He.DefD) ++ ([dM "Opened" "lacks_or" "Opened.lacks_or" sOpLacks, dM "Reader" "__init__" "Reader.__init__" sRdInit, dM "Reader" "take" "Reader.take" sRdTake, dM "Reader" "over" "Reader.over" sRdOver, dM "Reader" "rows" "Reader.rows" sRdRows, dM "Reader" "_close" "Reader._close" sRdClose, dM "Reader" "_turn" "Reader._turn" sRdTurn, dM "Reader" "_begin" "Reader._begin" sRdBegin] : List He.DefD)
def fa : List He.Fa := ([.glo "is_integer", .glo "is_number_below", .glo "is_name", .glo "is_parts", .glo "is_block", .glo "is_row", .glo "blocks_of", .glo "names_of", .glo "formless_place", .glo "rows_of", .glo "all_names", .glo "bad_place", .glo "block_leads", .glo "row_leads", .glo "is_number_text", .glo "is_integer_text", .glo "read_row", .glo "read_note", .glo "read_with", .glo "read_program", .glo "_law_hand", .glo "_law_draw", .glo "_law_any", .glo "_law_plain_row", .glo "_law_block"] : List He.Fa) ++ ([.glo "_law_size", .glo "_law_drawn", .glo "_law_rows", .glo "_law_names", .glo "_law_is_int", .glo "_law_is_name", .glo "_law_is_row", .glo "_law_first_wrong", .glo "_law_wrong", .glo "_law_deep", .glo "_law_row_text", .glo "_law_lines", .glo "_law_number", .glo "_law_plain", .glo "_law_closed", .glo "_law_taken", .glo "_law_due", .glo "_law_told", .glo "_law_changed", .glo "_law_nested", .glo "law", .glo "Program", .glo "ASKING", .glo "PileError", .glo "BadProgram"] : List He.Fa) ++ ([.glo "BadText", .glo "Opened", .glo "Reader", .free "abs", .free "all", .free "bool", .free "enumerate", .free "int", .free "isinstance", .free "len", .free "list", .free "range", .free "set", .free "sorted", .free "str", .free "sum", .free "tuple", .free "zip", .free "ValueError", .free "divmod", .int "MOST_ROWS_IN_BLOCK" 12, .int "MOST_ROWS" 30, .int "MOST_DEEP" 4, .int "MOST_NAMES" 8, .int "MOST_PARTS" 3] : List He.Fa) ++ ([.int "MOST_LETTERS" 8, .int "MOST_DIGITS" 30, .str "MARGIN" "  ", .str "DIGITS" "0123456789", .cls "Program", .mkr "Program", .noat "Program" "block", .noat "Program" "_rows", .noat "Program" "_leads", .noat "Program" "_names", .cls "Opened", .mkr "Opened", .noat "Opened" "begin", .noat "Opened" "taken", .cls "Reader", .mkr "Reader", .noat "Reader" "opened", .meth "Opened" "lacks_or", .meth "Reader" "take", .meth "Reader" "over", .meth "Reader" "rows", .meth "Reader" "_close", .meth "Reader" "_turn", .meth "Reader" "_begin", .exm "BadProgram" "BadProgram" true] : List He.Fa) ++ ([.exm "BadText" "BadText" true, .exm "BadProgram" "BadText" false, .noat "BadProgram" "place", .noat "BadText" "line"] : List He.Fa)
def excs : List Str := ["BadProgram", "BadText"]
/-- what is asked of a class of objects -/
def objB (K : PySem.W.Frag) (x : Str) : Bool := opB (PySem.W.findIn K (.ref (He.ga K x)) "__class__") (some (some (.builtin "object.__class__"))) && (opB (PySem.W.specialIn K (.builtin "object.__class__") "__get__") (some (some (.builtin "getset_descriptor.__get__"))) && (decide (PySem.W.takesIn K (.builtin "object.__class__") = some true) && (decide (PySem.W.mroIn K (He.ga K x) (.type "object") = some true) && ((PySem.W.clsIn K (He.ga K x)).isSome && (decide (PySem.W.typeIn K (.ref (He.ga K x)) = some (.type "type")) && (decide (PySem.W.mroIn K (He.ga K x) (.type "int") = some false) && (decide (PySem.W.mroIn K (He.ga K x) (.type "tuple") = some false) && (opB (PySem.W.findIn K (.ref (He.ga K x)) "__ne__") (some (some (.builtin "object.__ne__"))) && decide (PySem.W.mroIn K (He.ga K x) (.type "str") = some false)))))))))
def tups (K : PySem.W.Frag) : Bool := true && He.tupB K "ASKING" [.str "ask", .str "print"]
def ex (K : PySem.W.Frag) : Bool := ((excs.all fun x => ecB K "PileError" x) && [("Program" : Str), ("Opened" : Str), ("Reader" : Str)].all fun x => objB K x) && tups K
abbrev R : PySem.W.OpenRow := PySem.W.OpenLaw.row PySem.Challenge.rw_putoffpiles_k05_whole_first_wrong_lines
abbrev hk : PySem.W.Hook := hookB 5 fa fn ex
def ob (s : PySem.W.SharedT) : AlB := obsBG 5 fa fn ex (HandSHeadRun.getT s)
theorem ob_eq (s : PySem.W.SharedT) : ob s = hk.obs s.abs := obsBG_eq (HandSHeadRun.getT_eq s)
def loose : List Str := (["PileError", "BadProgram", "BadText", "Program", "Opened", "Reader", "is_integer", "is_number_below", "is_name", "is_parts", "is_block", "is_row", "blocks_of", "names_of", "formless_place", "rows_of", "all_names", "bad_place", "block_leads", "row_leads", "is_number_text", "is_integer_text", "read_row", "read_note", "read_with"] : List Str) ++ (["read_program", "_law_hand", "_law_draw", "_law_any", "_law_plain_row", "_law_block", "_law_size", "_law_drawn", "_law_rows", "_law_names", "_law_is_int", "_law_is_name", "_law_is_row", "_law_first_wrong", "_law_wrong", "_law_deep", "_law_row_text", "_law_lines", "_law_number", "_law_plain", "_law_closed", "_law_taken", "_law_due", "_law_told", "_law_changed"] : List Str) ++ (["_law_nested", "MOST_ROWS_IN_BLOCK", "MOST_ROWS", "MOST_DEEP", "MOST_NAMES", "MOST_PARTS", "MOST_LETTERS", "MOST_DIGITS", "MARGIN", "DIGITS", "ASKING"] : List Str)
theorem run (w : World) : HandSHeadRun.RunEq R (PySem.W.view R.prog [65]) hk ob 20000 loose w := by
  intro os
  kernel_rfl
end K05
set_option Elab.async false
set_option linter.all false
set_option maxRecDepth 100000
set_option maxHeartbeats 4000000
namespace K05
open PySem PySem.Spec PyProof.Rows L2 ZX PM ZR
section
variable {P : Program} {w : World} {K : PySem.W.Frag} {h : Heap} {mg : Str → Option Value} {base : Heap}
theorem glo (X : K.In h) (G : h.Ns mainGlobals mg) (c : SaysB fa fn ex K) (i : Nat) (x : Str) (e : fa[i]? = some (.glo x)) : mg x = some (.ref (He.ga K x)) := He.glo_ok X G (c.d.fact i (f := .glo x) e)
theorem free (X : K.In h) (G : h.Ns mainGlobals mg) (c : SaysB fa fn ex K) (i : Nat) (x : Str) (e : fa[i]? = some (.free x)) : mg x = none := He.free_ok X G (c.d.fact i (f := .free x) e)
theorem bi_of (X : K.In h) (G : h.Ns mainGlobals mg) (c : SaysB fa fn ex K) : Bi mg := { b_abs := free X G c 53 _ rfl, b_all := free X G c 54 _ rfl, b_bool := free X G c 55 _ rfl, b_enumerate := free X G c 56 _ rfl, b_int := free X G c 57 _ rfl, b_isinstance := free X G c 58 _ rfl, b_len := free X G c 59 _ rfl, b_list := free X G c 60 _ rfl, b_range := free X G c 61 _ rfl, b_set := free X G c 62 _ rfl, b_sorted := free X G c 63 _ rfl, b_str := free X G c 64 _ rfl, b_sum := free X G c 65 _ rfl, b_tuple := free X G c 66 _ rfl, b_zip := free X G c 67 _ rfl, m_MOST_ROWS_IN_BLOCK := He.int_ok X G (c.d.fact 70 (f := .int "MOST_ROWS_IN_BLOCK" 12) rfl), m_MOST_ROWS := He.int_ok X G (c.d.fact 71 (f := .int "MOST_ROWS" 30) rfl), m_MOST_DEEP := He.int_ok X G (c.d.fact 72 (f := .int "MOST_DEEP" 4) rfl), m_MOST_NAMES := He.int_ok X G (c.d.fact 73 (f := .int "MOST_NAMES" 8) rfl), m_MOST_PARTS := He.int_ok X G (c.d.fact 74 (f := .int "MOST_PARTS" 3) rfl), m_MOST_LETTERS := He.int_ok X G (c.d.fact 75 (f := .int "MOST_LETTERS" 8) rfl) }
theorem exc_of (c : SaysB fa fn ex K) {x : Str} (hx : x ∈ excs) : EcC K "PileError" x := ecB_ok (List.all_eq_true.mp (Bool.and_eq_true_iff.mp (Bool.and_eq_true_iff.mp (show (((excs.all fun x => ecB K "PileError" x) && _) && tups K) = true from c.more)).1).1 x hx)
theorem asking_of (X : K.In h) (G : h.Ns mainGlobals mg) (c : SaysB fa fn ex K) : Asking K mg := ⟨_, glo X G c 47 _ rfl, fun H => He.tupB_ok (vs := [.str "ask", .str "print"]) (Bool.and_eq_true_iff.mp (show (true && He.tupB K "ASKING" [.str "ask", .str "print"]) = true from (Bool.and_eq_true_iff.mp (show (_ && tups K) = true from c.more)).2)).2 H⟩
structure ObjProgram (K : PySem.W.Frag) : Prop where
  c : Cls K (He.ga K "Program")
  m : Mk K (He.ga K "Program") (He.ma K (He.ga K "Program") "__init__")
  ga : PySem.W.findIn K (.ref (He.ga K "Program")) "__class__" = some (some (.builtin "object.__class__"))
  gn : PySem.W.specialIn K (.builtin "object.__class__") "__get__" = some (some (.builtin "getset_descriptor.__get__"))
  gt : PySem.W.takesIn K (.builtin "object.__class__") = some true
  gm : PySem.W.mroIn K (He.ga K "Program") (.type "object") = some true
  isC : (PySem.W.clsIn K (He.ga K "Program")).isSome = true
  tyC : PySem.W.typeIn K (.ref (He.ga K "Program")) = some (.type "type")
  gi : PySem.W.mroIn K (He.ga K "Program") (.type "int") = some false
  tu : PySem.W.mroIn K (He.ga K "Program") (.type "tuple") = some false
  ne : PySem.W.findIn K (.ref (He.ga K "Program")) "__ne__" = some (some (.builtin "object.__ne__"))
  st : PySem.W.mroIn K (He.ga K "Program") (.type "str") = some false
  n_block : NoAttr K (He.ga K "Program") "block"
  n__rows : NoAttr K (He.ga K "Program") "_rows"
  n__leads : NoAttr K (He.ga K "Program") "_leads"
  n__names : NoAttr K (He.ga K "Program") "_names"
theorem objProgram_of (c : SaysB fa fn ex K) : ObjProgram K := by
  have hex := (Bool.and_eq_true_iff.mp (Bool.and_eq_true_iff.mp (show (((excs.all fun x => ecB K "PileError" x) && [("Program" : Str), ("Opened" : Str), ("Reader" : Str)].all fun x => objB K x) && tups K) = true from c.more)).1).2
  have h := List.all_eq_true.mp hex "Program" (by simp)
  obtain ⟨h1, h⟩ := Bool.and_eq_true_iff.mp h
  obtain ⟨h2, h⟩ := Bool.and_eq_true_iff.mp h
  obtain ⟨h3, h⟩ := Bool.and_eq_true_iff.mp h
  obtain ⟨h4, h⟩ := Bool.and_eq_true_iff.mp h
  obtain ⟨h5, h⟩ := Bool.and_eq_true_iff.mp h
  obtain ⟨h6, h⟩ := Bool.and_eq_true_iff.mp h
  obtain ⟨h7, h⟩ := Bool.and_eq_true_iff.mp h
  obtain ⟨h8, h⟩ := Bool.and_eq_true_iff.mp h
  obtain ⟨h9, h10⟩ := Bool.and_eq_true_iff.mp h
  exact ⟨He.cls_ok (c.d.fact 79 (f := .cls "Program") rfl), He.mkr_ok (c.d.fact 80 (f := .mkr "Program") rfl), of_decide_eq_true h1, of_decide_eq_true h2, of_decide_eq_true h3, of_decide_eq_true h4, h5, of_decide_eq_true h6, of_decide_eq_true h7, of_decide_eq_true h8, of_decide_eq_true h9, of_decide_eq_true h10, He.noat_ok (c.d.fact 81 (f := .noat "Program" "block") rfl), He.noat_ok (c.d.fact 82 (f := .noat "Program" "_rows") rfl), He.noat_ok (c.d.fact 83 (f := .noat "Program" "_leads") rfl), He.noat_ok (c.d.fact 84 (f := .noat "Program" "_names") rfl)⟩
structure ObjOpened (K : PySem.W.Frag) : Prop where
  c : Cls K (He.ga K "Opened")
  m : Mk K (He.ga K "Opened") (He.ma K (He.ga K "Opened") "__init__")
  ga : PySem.W.findIn K (.ref (He.ga K "Opened")) "__class__" = some (some (.builtin "object.__class__"))
  gn : PySem.W.specialIn K (.builtin "object.__class__") "__get__" = some (some (.builtin "getset_descriptor.__get__"))
  gt : PySem.W.takesIn K (.builtin "object.__class__") = some true
  gm : PySem.W.mroIn K (He.ga K "Opened") (.type "object") = some true
  isC : (PySem.W.clsIn K (He.ga K "Opened")).isSome = true
  tyC : PySem.W.typeIn K (.ref (He.ga K "Opened")) = some (.type "type")
  gi : PySem.W.mroIn K (He.ga K "Opened") (.type "int") = some false
  tu : PySem.W.mroIn K (He.ga K "Opened") (.type "tuple") = some false
  ne : PySem.W.findIn K (.ref (He.ga K "Opened")) "__ne__" = some (some (.builtin "object.__ne__"))
  st : PySem.W.mroIn K (He.ga K "Opened") (.type "str") = some false
  n_begin : NoAttr K (He.ga K "Opened") "begin"
  n_taken : NoAttr K (He.ga K "Opened") "taken"
theorem objOpened_of (c : SaysB fa fn ex K) : ObjOpened K := by
  have hex := (Bool.and_eq_true_iff.mp (Bool.and_eq_true_iff.mp (show (((excs.all fun x => ecB K "PileError" x) && [("Program" : Str), ("Opened" : Str), ("Reader" : Str)].all fun x => objB K x) && tups K) = true from c.more)).1).2
  have h := List.all_eq_true.mp hex "Opened" (by simp)
  obtain ⟨h1, h⟩ := Bool.and_eq_true_iff.mp h
  obtain ⟨h2, h⟩ := Bool.and_eq_true_iff.mp h
  obtain ⟨h3, h⟩ := Bool.and_eq_true_iff.mp h
  obtain ⟨h4, h⟩ := Bool.and_eq_true_iff.mp h
  obtain ⟨h5, h⟩ := Bool.and_eq_true_iff.mp h
  obtain ⟨h6, h⟩ := Bool.and_eq_true_iff.mp h
  obtain ⟨h7, h⟩ := Bool.and_eq_true_iff.mp h
  obtain ⟨h8, h⟩ := Bool.and_eq_true_iff.mp h
  obtain ⟨h9, h10⟩ := Bool.and_eq_true_iff.mp h
  exact ⟨He.cls_ok (c.d.fact 85 (f := .cls "Opened") rfl), He.mkr_ok (c.d.fact 86 (f := .mkr "Opened") rfl), of_decide_eq_true h1, of_decide_eq_true h2, of_decide_eq_true h3, of_decide_eq_true h4, h5, of_decide_eq_true h6, of_decide_eq_true h7, of_decide_eq_true h8, of_decide_eq_true h9, of_decide_eq_true h10, He.noat_ok (c.d.fact 87 (f := .noat "Opened" "begin") rfl), He.noat_ok (c.d.fact 88 (f := .noat "Opened" "taken") rfl)⟩
structure ObjReader (K : PySem.W.Frag) : Prop where
  c : Cls K (He.ga K "Reader")
  m : Mk K (He.ga K "Reader") (He.ma K (He.ga K "Reader") "__init__")
  ga : PySem.W.findIn K (.ref (He.ga K "Reader")) "__class__" = some (some (.builtin "object.__class__"))
  gn : PySem.W.specialIn K (.builtin "object.__class__") "__get__" = some (some (.builtin "getset_descriptor.__get__"))
  gt : PySem.W.takesIn K (.builtin "object.__class__") = some true
  gm : PySem.W.mroIn K (He.ga K "Reader") (.type "object") = some true
  isC : (PySem.W.clsIn K (He.ga K "Reader")).isSome = true
  tyC : PySem.W.typeIn K (.ref (He.ga K "Reader")) = some (.type "type")
  gi : PySem.W.mroIn K (He.ga K "Reader") (.type "int") = some false
  tu : PySem.W.mroIn K (He.ga K "Reader") (.type "tuple") = some false
  ne : PySem.W.findIn K (.ref (He.ga K "Reader")) "__ne__" = some (some (.builtin "object.__ne__"))
  st : PySem.W.mroIn K (He.ga K "Reader") (.type "str") = some false
  n_opened : NoAttr K (He.ga K "Reader") "opened"
theorem objReader_of (c : SaysB fa fn ex K) : ObjReader K := by
  have hex := (Bool.and_eq_true_iff.mp (Bool.and_eq_true_iff.mp (show (((excs.all fun x => ecB K "PileError" x) && [("Program" : Str), ("Opened" : Str), ("Reader" : Str)].all fun x => objB K x) && tups K) = true from c.more)).1).2
  have h := List.all_eq_true.mp hex "Reader" (by simp)
  obtain ⟨h1, h⟩ := Bool.and_eq_true_iff.mp h
  obtain ⟨h2, h⟩ := Bool.and_eq_true_iff.mp h
  obtain ⟨h3, h⟩ := Bool.and_eq_true_iff.mp h
  obtain ⟨h4, h⟩ := Bool.and_eq_true_iff.mp h
  obtain ⟨h5, h⟩ := Bool.and_eq_true_iff.mp h
  obtain ⟨h6, h⟩ := Bool.and_eq_true_iff.mp h
  obtain ⟨h7, h⟩ := Bool.and_eq_true_iff.mp h
  obtain ⟨h8, h⟩ := Bool.and_eq_true_iff.mp h
  obtain ⟨h9, h10⟩ := Bool.and_eq_true_iff.mp h
  exact ⟨He.cls_ok (c.d.fact 89 (f := .cls "Reader") rfl), He.mkr_ok (c.d.fact 90 (f := .mkr "Reader") rfl), of_decide_eq_true h1, of_decide_eq_true h2, of_decide_eq_true h3, of_decide_eq_true h4, h5, of_decide_eq_true h6, of_decide_eq_true h7, of_decide_eq_true h8, of_decide_eq_true h9, of_decide_eq_true h10, He.noat_ok (c.d.fact 91 (f := .noat "Reader" "opened") rfl)⟩
end
theorem scBadProgram : FnScope ["self", "place"] ["self", "place"] (defScope iBadProgram) := ⟨rfl, rfl, rfl, by decide +kernel, rfl, by decide +kernel, by decide +kernel⟩
theorem ok_BadProgram {P : Program} {w : World} {K : PySem.W.Frag} {mg : Str → Option Value} {base : Heap} {f : Addr} {fd : FuncData} (F : FunD K "__init__" "BadProgram.__init__" (defArgs iBadProgram) (defBody iBadProgram) (defScope iBadProgram) [] [] f fd) (E : EcC K "PileError" "BadProgram") (no : PySem.W.findIn K (.ref (He.ga K "BadProgram")) "place" = some none) : FnOk P w K mg base CX0 1 f fd ["self", "place"] (spF (He.ga K "BadProgram") "place") := by
  refine F.ok scBadProgram (fun vs H Q E h => ?_) (fun cdv A outer s H vs Q E' hr h => ?_)
  · obtain ⟨a, v, rfl, _⟩ := h
    rfl
  · obtain ⟨a, v, rfl, ha, k⟩ := h
    refine ⟨_, PSs.nox (pss_one (ps_ost (pv 0) (pv 1))), ?_⟩
    exact ⟨_, rfl, _, rfl, a, _, rfl, E.oex, no, .inl ⟨ha, fun dx n ne => k dx n ne⟩⟩
theorem scBadText : FnScope ["self", "line"] ["self", "line"] (defScope iBadText) := ⟨rfl, rfl, rfl, by decide +kernel, rfl, by decide +kernel, by decide +kernel⟩
theorem ok_BadText {P : Program} {w : World} {K : PySem.W.Frag} {mg : Str → Option Value} {base : Heap} {f : Addr} {fd : FuncData} (F : FunD K "__init__" "BadText.__init__" (defArgs iBadText) (defBody iBadText) (defScope iBadText) [] [] f fd) (E : EcC K "PileError" "BadText") (no : PySem.W.findIn K (.ref (He.ga K "BadText")) "line" = some none) : FnOk P w K mg base CX0 1 f fd ["self", "line"] (spF (He.ga K "BadText") "line") := by
  refine F.ok scBadText (fun vs H Q E h => ?_) (fun cdv A outer s H vs Q E' hr h => ?_)
  · obtain ⟨a, v, rfl, _⟩ := h
    rfl
  · obtain ⟨a, v, rfl, ha, k⟩ := h
    refine ⟨_, PSs.nox (pss_one (ps_ost (pv 0) (pv 1))), ?_⟩
    exact ⟨_, rfl, _, rfl, a, _, rfl, E.oex, no, .inl ⟨ha, fun dx n ne => k dx n ne⟩⟩
theorem facts {P : Program} {w : World} {K : PySem.W.Frag} {h : Heap} {mg : Str → Option Value} {f : Addr} (X : K.In h) (G : h.Ns mainGlobals mg) (hfa : mg ("law" : Str) = some (.ref f)) (c : SaysB fa fn ex K) :
    ∃ fd : FuncData, (∀ (s : Shared) (v : Value), BindsTo s fd ⟨[v], []⟩ [("_law_script", v)]) ∧ ∀ base : Heap, K.In base → base.Ns mainGlobals mg → FnOk P w K mg base CX0 20 f fd ["_law_script"] (spLaw K) := by
  obtain ⟨f_law, F_law⟩ := c.d.def_ 45 (d := dD "law" sLaw) rfl
  have e := hfa.symm.trans (He.glo_ok X G (c.d.fact 45 (f := .glo "law") rfl))
  cases e
  have b := FunD.bindsA (ps := ["_law_script"]) F_law fun _ _ _ _ _ _ us hl => match us, hl with | [_], _ => rfl
  refine ⟨f_law, fun s v => b s [v] rfl, fun base _ _ => ?_⟩
  have bi := bi_of X G c
  have oP := objProgram_of c
  have oO := objOpened_of c
  have oR := objReader_of c
  have eB := exc_of c (x := "BadProgram") (by simp [excs])
  have eT := exc_of c (x := "BadText") (by simp [excs])
  obtain ⟨f_is_integer, F_is_integer⟩ := c.d.def_ 0 (d := dD "is_integer" sIs_integer) rfl
  obtain ⟨f_is_number_below, F_is_number_below⟩ := c.d.def_ 1 (d := dD "is_number_below" sIs_number_below) rfl
  obtain ⟨f_is_name, F_is_name⟩ := c.d.def_ 2 (d := dD "is_name" sIs_name) rfl
  obtain ⟨f_is_parts, F_is_parts⟩ := c.d.def_ 3 (d := dD "is_parts" sIs_parts) rfl
  obtain ⟨f_is_block, F_is_block⟩ := c.d.def_ 4 (d := dD "is_block" sIs_block) rfl
  obtain ⟨f_is_row, F_is_row⟩ := c.d.def_ 5 (d := dV "is_row" sIs_row [.int 0]) rfl
  obtain ⟨f_blocks_of, F_blocks_of⟩ := c.d.def_ 6 (d := dD "blocks_of" sBlocks_of) rfl
  obtain ⟨f_names_of, F_names_of⟩ := c.d.def_ 7 (d := dD "names_of" sNames_of) rfl
  obtain ⟨f_formless_place, F_formless_place⟩ := c.d.def_ 8 (d := dD "formless_place" sFormless_place) rfl
  obtain ⟨f_rows_of, F_rows_of⟩ := c.d.def_ 9 (d := dD "rows_of" sRows_of) rfl
  obtain ⟨f_all_names, F_all_names⟩ := c.d.def_ 10 (d := dD "all_names" sAll_names) rfl
  obtain ⟨f_bad_place, F_bad_place⟩ := c.d.def_ 11 (d := dD "bad_place" sBad_place) rfl
  obtain ⟨f_block_leads, F_block_leads⟩ := c.d.def_ 12 (d := dD "block_leads" sBlock_leads) rfl
  obtain ⟨f_row_leads, F_row_leads⟩ := c.d.def_ 13 (d := dD "row_leads" sRow_leads) rfl
  obtain ⟨f_is_number_text, F_is_number_text⟩ := c.d.def_ 14 (d := dD "is_number_text" sIs_number_text) rfl
  obtain ⟨f_is_integer_text, F_is_integer_text⟩ := c.d.def_ 15 (d := dD "is_integer_text" sIs_integer_text) rfl
  obtain ⟨f_read_row, F_read_row⟩ := c.d.def_ 16 (d := dD "read_row" sRead_row) rfl
  obtain ⟨f_read_note, F_read_note⟩ := c.d.def_ 17 (d := dD "read_note" sRead_note) rfl
  obtain ⟨f_read_with, F_read_with⟩ := c.d.def_ 18 (d := dD "read_with" sRead_with) rfl
  obtain ⟨f_read_program, F_read_program⟩ := c.d.def_ 19 (d := dD "read_program" sRead_program) rfl
  obtain ⟨f__law_hand, F__law_hand⟩ := c.d.def_ 20 (d := dD "_law_hand" sHand) rfl
  obtain ⟨f__law_draw, F__law_draw⟩ := c.d.def_ 21 (d := dD "_law_draw" sDraw) rfl
  obtain ⟨f__law_any, F__law_any⟩ := c.d.def_ 22 (d := dD "_law_any" sAny) rfl
  obtain ⟨f__law_plain_row, F__law_plain_row⟩ := c.d.def_ 23 (d := dD "_law_plain_row" sLPlain) rfl
  obtain ⟨f__law_block, F__law_block⟩ := c.d.def_ 24 (d := dD "_law_block" sLBlock) rfl
  obtain ⟨f__law_size, F__law_size⟩ := c.d.def_ 25 (d := dD "_law_size" sLSize) rfl
  obtain ⟨f__law_drawn, F__law_drawn⟩ := c.d.def_ 26 (d := dD "_law_drawn" sLDrawn) rfl
  obtain ⟨f__law_rows, F__law_rows⟩ := c.d.def_ 27 (d := dD "_law_rows" sLRows) rfl
  obtain ⟨f__law_names, F__law_names⟩ := c.d.def_ 28 (d := dD "_law_names" sLNames) rfl
  obtain ⟨f__law_is_int, F__law_is_int⟩ := c.d.def_ 29 (d := dD "_law_is_int" sLIsInt) rfl
  obtain ⟨f__law_is_name, F__law_is_name⟩ := c.d.def_ 30 (d := dD "_law_is_name" sLIsName) rfl
  obtain ⟨f__law_is_row, F__law_is_row⟩ := c.d.def_ 31 (d := dD "_law_is_row" sLIsRow) rfl
  obtain ⟨f__law_first_wrong, F__law_first_wrong⟩ := c.d.def_ 32 (d := dD "_law_first_wrong" sLFirst) rfl
  obtain ⟨f__law_wrong, F__law_wrong⟩ := c.d.def_ 33 (d := dD "_law_wrong" sLWrong) rfl
  obtain ⟨f__law_deep, F__law_deep⟩ := c.d.def_ 34 (d := dD "_law_deep" sDeep) rfl
  obtain ⟨f__law_row_text, F__law_row_text⟩ := c.d.def_ 35 (d := dD "_law_row_text" sLRowText) rfl
  obtain ⟨f__law_lines, F__law_lines⟩ := c.d.def_ 36 (d := dD "_law_lines" sLLines) rfl
  obtain ⟨f__law_number, F__law_number⟩ := c.d.def_ 37 (d := dD "_law_number" sLNumber) rfl
  obtain ⟨f__law_plain, F__law_plain⟩ := c.d.def_ 38 (d := dD "_law_plain" sLPlainT) rfl
  obtain ⟨f__law_closed, F__law_closed⟩ := c.d.def_ 39 (d := dD "_law_closed" sLClosed) rfl
  obtain ⟨f__law_taken, F__law_taken⟩ := c.d.def_ 40 (d := dD "_law_taken" sLTaken) rfl
  obtain ⟨f__law_due, F__law_due⟩ := c.d.def_ 41 (d := dD "_law_due" sLDue) rfl
  obtain ⟨f__law_told, F__law_told⟩ := c.d.def_ 42 (d := dD "_law_told" sLTold) rfl
  obtain ⟨f__law_changed, F__law_changed⟩ := c.d.def_ 43 (d := dD "_law_changed" sLChanged) rfl
  obtain ⟨f__law_nested, F__law_nested⟩ := c.d.def_ 44 (d := dD "_law_nested" sLNested) rfl
  obtain ⟨f_init, F_init⟩ := c.d.def_ 46 (d := dM "Program" "__init__" "Program.__init__" sProgramInit) rfl
  obtain ⟨f_bp, F_bp⟩ := c.d.def_ 47 (d := dM "BadProgram" "__init__" "BadProgram.__init__" iBadProgram) rfl
  obtain ⟨f_bt, F_bt⟩ := c.d.def_ 48 (d := dM "BadText" "__init__" "BadText.__init__" iBadText) rfl
  obtain ⟨f_oi, F_oi⟩ := c.d.def_ 49 (d := dM "Opened" "__init__" "Opened.__init__" sOpInit) rfl
  obtain ⟨f_ol, F_ol⟩ := c.d.def_ 50 (d := dM "Opened" "lacks_or" "Opened.lacks_or" sOpLacks) rfl
  obtain ⟨f_ri, F_ri⟩ := c.d.def_ 51 (d := dM "Reader" "__init__" "Reader.__init__" sRdInit) rfl
  obtain ⟨f_rt, F_rt⟩ := c.d.def_ 52 (d := dM "Reader" "take" "Reader.take" sRdTake) rfl
  obtain ⟨f_ro, F_ro⟩ := c.d.def_ 53 (d := dM "Reader" "over" "Reader.over" sRdOver) rfl
  obtain ⟨f_rr, F_rr⟩ := c.d.def_ 54 (d := dM "Reader" "rows" "Reader.rows" sRdRows) rfl
  obtain ⟨f_rc, F_rc⟩ := c.d.def_ 55 (d := dM "Reader" "_close" "Reader._close" sRdClose) rfl
  obtain ⟨f_ru, F_ru⟩ := c.d.def_ 56 (d := dM "Reader" "_turn" "Reader._turn" sRdTurn) rfl
  obtain ⟨f_rb, F_rb⟩ := c.d.def_ 57 (d := dM "Reader" "_begin" "Reader._begin" sRdBegin) rfl
  have pc : PrC K (He.ga K "Program") := ⟨oP.c, oP.n_block, oP.n__rows, oP.n__leads, oP.n__names⟩
  have g_Program : mg "Program" = some (.ref (He.ga K "Program")) := glo X G c 46 _ rfl
  have g_PileError : mg "PileError" = some (.ref (He.ga K "PileError")) := glo X G c 48 _ rfl
  have g_BadProgram : mg "BadProgram" = some (.ref (He.ga K "BadProgram")) := glo X G c 49 _ rfl
  have g_BadText : mg "BadText" = some (.ref (He.ga K "BadText")) := glo X G c 50 _ rfl
  have g_Opened : mg "Opened" = some (.ref (He.ga K "Opened")) := glo X G c 51 _ rfl
  have g_Reader : mg "Reader" = some (.ref (He.ga K "Reader")) := glo X G c 52 _ rfl
  have noB := He.noat_ok (c.d.fact 102 (f := .noat "BadProgram" "place") rfl)
  have noT := He.noat_ok (c.d.fact 103 (f := .noat "BadText" "line") rfl)
  have exB := He.exm_ok (c.d.fact 99 (f := .exm "BadProgram" "BadProgram" true) rfl)
  have exT := He.exm_ok (c.d.fact 100 (f := .exm "BadText" "BadText" true) rfl)
  have exBT := He.exm_ok (c.d.fact 101 (f := .exm "BadProgram" "BadText" false) rfl)
  have bdm : mg "divmod" = none := free X G c 69 _ rfl
  have m30 : ∃ t, mg "MOST_DIGITS" = some (.int 30 t) := He.int_ok X G (c.d.fact 76 (f := .int "MOST_DIGITS" 30) rfl)
  have mM : ∃ t, mg "MARGIN" = some (.str "  " t) := He.str_ok X G (c.d.fact 77 (f := .str "MARGIN" "  ") rfl)
  have mD : ∃ t, mg "DIGITS" = some (.str "0123456789" t) := He.str_ok X G (c.d.fact 78 (f := .str "DIGITS" "0123456789") rfl)
  have O : OthC K (He.ga K "Program") := ⟨fun h => .base (.ins h oP.c oP.ga oP.gn oP.gt oP.gm), oP.tu, oP.gi, oP.st⟩
  have N : ErF P w K mg base "BadProgram" "place" (He.ga K "BadProgram") (He.ma K (He.ga K "BadProgram") "__init__") f_bp ["self", "place"] := ⟨eB.oex, eB.iC, eB.tI, ok_BadProgram F_bp eB noB, FunD.bindsN (ps := ["self", "place"]) F_bp (fun _ _ _ _ _ _ us hl => match us, hl with | [_, _], _ => rfl), g_BadProgram⟩
  have NT : ErF P w K mg base "BadText" "line" (He.ga K "BadText") (He.ma K (He.ga K "BadText") "__init__") f_bt ["self", "line"] := ⟨eT.oex, eT.iC, eT.tI, ok_BadText F_bt eT noT, FunD.bindsN (ps := ["self", "line"]) F_bt (fun _ _ _ _ _ _ us hl => match us, hl with | [_, _], _ => rfl), g_BadText⟩
  have rc : RdC K (He.ga K "Opened") (He.ga K "Reader") := ⟨oO.c, oO.n_begin, oO.n_taken, oR.c, oR.n_opened⟩
  have C_is_integer : Cal P w K mg base "is_integer" 1 ["thing"] (spIsInt K) := ⟨_, f_is_integer, ok_is_integer F_is_integer bi, glo X G c 0 _ rfl, F_is_integer.kp, FunD.bindsN (ps := ["thing"]) F_is_integer fun _ _ _ _ _ _ us hl => match us, hl with | [_], _ => rfl⟩
  have C_is_number_below : Cal P w K mg base "is_number_below" 2 ["limit", "thing"] (spBelow K) := ⟨_, f_is_number_below, ok_below F_is_number_below bi C_is_integer, glo X G c 1 _ rfl, F_is_number_below.kp, FunD.bindsN (ps := ["limit", "thing"]) F_is_number_below fun _ _ _ _ _ _ us hl => match us, hl with | [_, _], _ => rfl⟩
  have C_is_name : Cal P w K mg base "is_name" 1 ["thing"] (spIsName) := ⟨_, f_is_name, ok_is_name F_is_name bi, glo X G c 2 _ rfl, F_is_name.kp, FunD.bindsN (ps := ["thing"]) F_is_name fun _ _ _ _ _ _ us hl => match us, hl with | [_], _ => rfl⟩
  have C_is_parts : Cal P w K mg base "is_parts" 2 ["thing"] (spIsParts K) := ⟨_, f_is_parts, ok_is_parts F_is_parts bi C_is_name, glo X G c 3 _ rfl, F_is_parts.kp, FunD.bindsN (ps := ["thing"]) F_is_parts fun _ _ _ _ _ _ us hl => match us, hl with | [_], _ => rfl⟩
  have C_is_block : Cal P w K mg base "is_block" 1 ["deep", "thing"] (spIsBlock K) := ⟨_, f_is_block, ok_is_block F_is_block bi, glo X G c 4 _ rfl, F_is_block.kp, FunD.bindsN (ps := ["deep", "thing"]) F_is_block fun _ _ _ _ _ _ us hl => match us, hl with | [_, _], _ => rfl⟩
  have B_is_row : L2.Binds K f_is_row ["deep", "thing", "many"] [] := by
    obtain ⟨ds, hv, hb⟩ := FunD.binds1 (ps := ["deep", "thing", "many"]) F_is_row 3 1 (fun h => by cases h) rfl fun _ _ _ _ _ _ _ us its hl hi => match us, hl, its, hi with | [_, _, _], _, [_], _ => ⟨_, rfl, rfl⟩
    cases hv
    exact hb
  have C_is_row : Cal P w K mg base "is_row" 3 ["deep", "thing", "many"] (spIsRow K) := ⟨_, f_is_row, ok_is_row F_is_row bi (asking_of X G c) C_is_integer C_is_number_below C_is_name C_is_parts C_is_block, glo X G c 5 _ rfl, F_is_row.kp, B_is_row⟩
  have D_is_name : Cal P w K mg base "is_name" 1 ["thing"] (spNameD K (He.ga K "Program")) := ⟨_, f_is_name, ok_nameD O F_is_name bi, glo X G c 2 _ rfl, F_is_name.kp, FunD.bindsN (ps := ["thing"]) F_is_name fun _ _ _ _ _ _ us hl => match us, hl with | [_], _ => rfl⟩
  have D_is_parts : Cal P w K mg base "is_parts" 2 ["thing"] (spPartsD K (He.ga K "Program")) := ⟨_, f_is_parts, ok_partsD O F_is_parts bi D_is_name, glo X G c 3 _ rfl, F_is_parts.kp, FunD.bindsN (ps := ["thing"]) F_is_parts fun _ _ _ _ _ _ us hl => match us, hl with | [_], _ => rfl⟩
  have D_is_block : Cal P w K mg base "is_block" 1 ["deep", "thing"] (spBlockD K (He.ga K "Program")) := ⟨_, f_is_block, ok_blockD O F_is_block bi, glo X G c 4 _ rfl, F_is_block.kp, FunD.bindsN (ps := ["deep", "thing"]) F_is_block fun _ _ _ _ _ _ us hl => match us, hl with | [_, _], _ => rfl⟩
  have B_is_row : L2.Binds K f_is_row ["deep", "thing", "many"] [] := by
    obtain ⟨ds, hv, hb⟩ := FunD.binds1 (ps := ["deep", "thing", "many"]) F_is_row 3 1 (fun h => by cases h) rfl fun _ _ _ _ _ _ _ us its hl hi => match us, hl, its, hi with | [_, _, _], _, [_], _ => ⟨_, rfl, rfl⟩
    cases hv
    exact hb
  have D_is_row : Cal P w K mg base "is_row" 3 ["deep", "thing", "many"] (spRowD K (He.ga K "Program")) := ⟨_, f_is_row, ok_rowD O F_is_row bi (asking_of X G c) C_is_integer C_is_number_below D_is_name D_is_parts D_is_block, glo X G c 5 _ rfl, F_is_row.kp, B_is_row⟩
  have C_blocks_of : Cal P w K mg base "blocks_of" 1 ["row"] (spBlocksOf K) := ⟨_, f_blocks_of, ok_blocks_of F_blocks_of bi, glo X G c 6 _ rfl, F_blocks_of.kp, FunD.bindsN (ps := ["row"]) F_blocks_of fun _ _ _ _ _ _ us hl => match us, hl with | [_], _ => rfl⟩
  have D_blocks_of : Cal P w K mg base "blocks_of" 1 ["row"] (spBlocksOfD K (He.ga K "Program")) := ⟨_, f_blocks_of, ok_blocksD F_blocks_of bi, glo X G c 6 _ rfl, F_blocks_of.kp, FunD.bindsN (ps := ["row"]) F_blocks_of fun _ _ _ _ _ _ us hl => match us, hl with | [_], _ => rfl⟩
  have C_names_of : Cal P w K mg base "names_of" 2 ["row"] (spNamesOf K) := ⟨_, f_names_of, ok_names_of F_names_of bi (asking_of X G c), glo X G c 7 _ rfl, F_names_of.kp, FunD.bindsN (ps := ["row"]) F_names_of fun _ _ _ _ _ _ us hl => match us, hl with | [_], _ => rfl⟩
  have C_formless_place : Cal P w K mg base "formless_place" 4 ["block", "many"] (spFormless K) := ⟨_, f_formless_place, ok_formless F_formless_place bi C_is_row C_blocks_of, glo X G c 8 _ rfl, F_formless_place.kp, FunD.bindsN (ps := ["block", "many"]) F_formless_place fun _ _ _ _ _ _ us hl => match us, hl with | [_, _], _ => rfl⟩
  have D_formless_place : Cal P w K mg base "formless_place" 4 ["block", "many"] (spFormlessD K (He.ga K "Program")) := ⟨_, f_formless_place, ok_formlessD F_formless_place bi D_is_row D_blocks_of, glo X G c 8 _ rfl, F_formless_place.kp, FunD.bindsN (ps := ["block", "many"]) F_formless_place fun _ _ _ _ _ _ us hl => match us, hl with | [_, _], _ => rfl⟩
  have C0_rows_of : Cal P w K mg base "rows_of" 1 ["block"] (spRowsOf K 0) := ⟨_, f_rows_of, ok_rows_of0 _, glo X G c 9 _ rfl, F_rows_of.kp, FunD.bindsN (ps := ["block"]) F_rows_of fun _ _ _ _ _ _ us hl => match us, hl with | [_], _ => rfl⟩
  have C1_rows_of : Cal P w K mg base "rows_of" 2 ["block"] (spRowsOf K 1) := ⟨_, f_rows_of, ok_rows_of1 F_rows_of bi C_blocks_of C0_rows_of, glo X G c 9 _ rfl, F_rows_of.kp, FunD.bindsN (ps := ["block"]) F_rows_of fun _ _ _ _ _ _ us hl => match us, hl with | [_], _ => rfl⟩
  have C2_rows_of : Cal P w K mg base "rows_of" 3 ["block"] (spRowsOf K 2) := ⟨_, f_rows_of, ok_rows_of1 F_rows_of bi C_blocks_of C1_rows_of, glo X G c 9 _ rfl, F_rows_of.kp, FunD.bindsN (ps := ["block"]) F_rows_of fun _ _ _ _ _ _ us hl => match us, hl with | [_], _ => rfl⟩
  have C3_rows_of : Cal P w K mg base "rows_of" 4 ["block"] (spRowsOf K 3) := ⟨_, f_rows_of, ok_rows_of1 F_rows_of bi C_blocks_of C2_rows_of, glo X G c 9 _ rfl, F_rows_of.kp, FunD.bindsN (ps := ["block"]) F_rows_of fun _ _ _ _ _ _ us hl => match us, hl with | [_], _ => rfl⟩
  have C4_rows_of : Cal P w K mg base "rows_of" 5 ["block"] (spRowsOf K 4) := ⟨_, f_rows_of, ok_rows_of1 F_rows_of bi C_blocks_of C3_rows_of, glo X G c 9 _ rfl, F_rows_of.kp, FunD.bindsN (ps := ["block"]) F_rows_of fun _ _ _ _ _ _ us hl => match us, hl with | [_], _ => rfl⟩
  have C_all_names : Cal P w K mg base "all_names" 3 ["rows"] (spAllNames K) := ⟨_, f_all_names, ok_all_names F_all_names bi C_names_of, glo X G c 10 _ rfl, F_all_names.kp, FunD.bindsN (ps := ["rows"]) F_all_names fun _ _ _ _ _ _ us hl => match us, hl with | [_], _ => rfl⟩
  have C_bad_place : Cal P w K mg base "bad_place" 6 ["block", "many"] (spBad K) := ⟨_, f_bad_place, ok_bad_place F_bad_place bi C_formless_place C4_rows_of C_all_names, glo X G c 11 _ rfl, F_bad_place.kp, FunD.bindsN (ps := ["block", "many"]) F_bad_place fun _ _ _ _ _ _ us hl => match us, hl with | [_, _], _ => rfl⟩
  have D_bad_place : Cal P w K mg base "bad_place" 6 ["block", "many"] (spBadD K (He.ga K "Program")) := ⟨_, f_bad_place, ok_badD O F_bad_place bi D_formless_place C4_rows_of C_all_names, glo X G c 11 _ rfl, F_bad_place.kp, FunD.bindsN (ps := ["block", "many"]) F_bad_place fun _ _ _ _ _ _ us hl => match us, hl with | [_, _], _ => rfl⟩
  have R0 : Cal P w K mg base "row_leads" 6 ["row", "place", "behind"] (spRowLeads K 0) := ⟨_, f_row_leads, ok_row_leads0 _, glo X G c 13 _ rfl, F_row_leads.kp, FunD.bindsN (ps := ["row", "place", "behind"]) F_row_leads fun _ _ _ _ _ _ us hl => match us, hl with | [_, _, _], _ => rfl⟩
  have B0 : Cal P w K mg base "block_leads" 7 ["block", "place", "behind"] (spBlockLeads K 0) := ⟨_, f_block_leads, ok_block_leads1 F_block_leads bi (by decide) C4_rows_of R0, glo X G c 12 _ rfl, F_block_leads.kp, FunD.bindsN (ps := ["block", "place", "behind"]) F_block_leads fun _ _ _ _ _ _ us hl => match us, hl with | [_, _, _], _ => rfl⟩
  have R1 : Cal P w K mg base "row_leads" 8 ["row", "place", "behind"] (spRowLeads K 1) := ⟨_, f_row_leads, ok_row_leads1 F_row_leads bi (by decide) C4_rows_of B0, glo X G c 13 _ rfl, F_row_leads.kp, FunD.bindsN (ps := ["row", "place", "behind"]) F_row_leads fun _ _ _ _ _ _ us hl => match us, hl with | [_, _, _], _ => rfl⟩
  have B1 : Cal P w K mg base "block_leads" 9 ["block", "place", "behind"] (spBlockLeads K 1) := ⟨_, f_block_leads, ok_block_leads1 F_block_leads bi (by decide) C4_rows_of R1, glo X G c 12 _ rfl, F_block_leads.kp, FunD.bindsN (ps := ["block", "place", "behind"]) F_block_leads fun _ _ _ _ _ _ us hl => match us, hl with | [_, _, _], _ => rfl⟩
  have R2 : Cal P w K mg base "row_leads" 10 ["row", "place", "behind"] (spRowLeads K 2) := ⟨_, f_row_leads, ok_row_leads1 F_row_leads bi (by decide) C4_rows_of B1, glo X G c 13 _ rfl, F_row_leads.kp, FunD.bindsN (ps := ["row", "place", "behind"]) F_row_leads fun _ _ _ _ _ _ us hl => match us, hl with | [_, _, _], _ => rfl⟩
  have B2 : Cal P w K mg base "block_leads" 11 ["block", "place", "behind"] (spBlockLeads K 2) := ⟨_, f_block_leads, ok_block_leads1 F_block_leads bi (by decide) C4_rows_of R2, glo X G c 12 _ rfl, F_block_leads.kp, FunD.bindsN (ps := ["block", "place", "behind"]) F_block_leads fun _ _ _ _ _ _ us hl => match us, hl with | [_, _, _], _ => rfl⟩
  have R3 : Cal P w K mg base "row_leads" 12 ["row", "place", "behind"] (spRowLeads K 3) := ⟨_, f_row_leads, ok_row_leads1 F_row_leads bi (by decide) C4_rows_of B2, glo X G c 13 _ rfl, F_row_leads.kp, FunD.bindsN (ps := ["row", "place", "behind"]) F_row_leads fun _ _ _ _ _ _ us hl => match us, hl with | [_, _, _], _ => rfl⟩
  have B3 : Cal P w K mg base "block_leads" 13 ["block", "place", "behind"] (spBlockLeads K 3) := ⟨_, f_block_leads, ok_block_leads1 F_block_leads bi (by decide) C4_rows_of R3, glo X G c 12 _ rfl, F_block_leads.kp, FunD.bindsN (ps := ["block", "place", "behind"]) F_block_leads fun _ _ _ _ _ _ us hl => match us, hl with | [_, _, _], _ => rfl⟩
  have R4 : Cal P w K mg base "row_leads" 14 ["row", "place", "behind"] (spRowLeads K 4) := ⟨_, f_row_leads, ok_row_leads1 F_row_leads bi (by decide) C4_rows_of B3, glo X G c 13 _ rfl, F_row_leads.kp, FunD.bindsN (ps := ["row", "place", "behind"]) F_row_leads fun _ _ _ _ _ _ us hl => match us, hl with | [_, _, _], _ => rfl⟩
  have B4 : Cal P w K mg base "block_leads" 15 ["block", "place", "behind"] (spBlockLeads K 4) := ⟨_, f_block_leads, ok_block_leads1 F_block_leads bi (by decide) C4_rows_of R4, glo X G c 12 _ rfl, F_block_leads.kp, FunD.bindsN (ps := ["block", "place", "behind"]) F_block_leads fun _ _ _ _ _ _ us hl => match us, hl with | [_, _, _], _ => rfl⟩
  have MP : ClsMk P w K mg base CX0 "Program" (He.ga K "Program") 16 ["self", "block"] (spInit K (He.ga K "Program")) := ⟨⟨_, f_init, oP.m, ok_init F_init bi pc C_bad_place C4_rows_of C_all_names B4, FunD.bindsN (ps := ["self", "block"]) F_init (fun _ _ _ _ _ _ us hl => match us, hl with | [_, _], _ => rfl), g_Program⟩⟩
  have MX : ClsMk P w K mg base (L2.CX P w) "Program" (He.ga K "Program") 16 ["self", "block"] (spInitD K (He.ga K "Program") (He.ga K "BadProgram")) := ⟨⟨_, f_init, oP.m, ok_initD O N F_init bi pc D_bad_place C4_rows_of C_all_names B4, FunD.bindsN (ps := ["self", "block"]) F_init (fun _ _ _ _ _ _ us hl => match us, hl with | [_, _], _ => rfl), g_Program⟩⟩
  have C_is_number_text : Cal P w K mg base "is_number_text" 1 ["most", "text"] (spNumT) := ⟨_, f_is_number_text, ok_number_text F_is_number_text bi mD, glo X G c 14 _ rfl, F_is_number_text.kp, FunD.bindsN (ps := ["most", "text"]) F_is_number_text fun _ _ _ _ _ _ us hl => match us, hl with | [_, _], _ => rfl⟩
  have C_is_integer_text : Cal P w K mg base "is_integer_text" 2 ["text"] (spIntT) := ⟨_, f_is_integer_text, ok_integer_text F_is_integer_text bi m30 C_is_number_text, glo X G c 15 _ rfl, F_is_integer_text.kp, FunD.bindsN (ps := ["text"]) F_is_integer_text fun _ _ _ _ _ _ us hl => match us, hl with | [_], _ => rfl⟩
  have C_read_note : Cal P w K mg base "read_note" 2 ["name", "text"] (spReadNote K) := ⟨_, f_read_note, ok_read_note F_read_note bi D_is_name, glo X G c 17 _ rfl, F_read_note.kp, FunD.bindsN (ps := ["name", "text"]) F_read_note fun _ _ _ _ _ _ us hl => match us, hl with | [_, _], _ => rfl⟩
  have C_read_row : Cal P w K mg base "read_row" 3 ["text"] (spReadRow K) := ⟨_, f_read_row, ok_read_row F_read_row bi (asking_of X G c) D_is_name C_is_integer_text C_read_note, glo X G c 16 _ rfl, F_read_row.kp, FunD.bindsN (ps := ["text"]) F_read_row fun _ _ _ _ _ _ us hl => match us, hl with | [_], _ => rfl⟩
  have MO : OpMk P w K mg base (He.ga K "Opened") := ⟨⟨_, f_oi, oO.m, ok_op_init F_oi rc, FunD.bindsN (ps := ["self", "begin"]) F_oi (fun _ _ _ _ _ _ us hl => match us, hl with | [_, _], _ => rfl), g_Opened⟩⟩
  have M_lacks : MCal P w K mg base (He.ga K "Opened") "lacks_or" 1 ["self"] (spLacks K (He.ga K "Opened")) := ⟨oO.c, _, f_ol, ok_op_lacks F_ol rc, He.meth_ok (c.d.fact 92 (f := .meth "Opened" "lacks_or") rfl), FunD.bindsN (ps := ["self"]) F_ol (fun _ _ _ _ _ _ us hl => match us, hl with | [_], _ => rfl)⟩
  have MR : ClsMk P w K mg base CX0 "Reader" (He.ga K "Reader") 3 ["self"] (spRdInit K (He.ga K "Opened") (He.ga K "Reader")) := ⟨⟨_, f_ri, oR.m, ok_rd_init F_ri rc MO, FunD.bindsN (ps := ["self"]) F_ri (fun _ _ _ _ _ _ us hl => match us, hl with | [_], _ => rfl), g_Reader⟩⟩
  have M_close : MCal P w K mg base (He.ga K "Reader") "_close" 2 ["self", "many"] (spClose K (He.ga K "Opened") (He.ga K "Reader")) := ⟨oR.c, _, f_rc, ok_close F_rc bi rc M_lacks, He.meth_ok (c.d.fact 96 (f := .meth "Reader" "_close") rfl), FunD.bindsN (ps := ["self", "many"]) F_rc (fun _ _ _ _ _ _ us hl => match us, hl with | [_, _], _ => rfl)⟩
  have M_over : MCal P w K mg base (He.ga K "Reader") "over" 3 ["self"] (spOver K (He.ga K "Opened") (He.ga K "Reader")) := ⟨oR.c, _, f_ro, ok_over F_ro M_close, He.meth_ok (c.d.fact 94 (f := .meth "Reader" "over") rfl), FunD.bindsN (ps := ["self"]) F_ro (fun _ _ _ _ _ _ us hl => match us, hl with | [_], _ => rfl)⟩
  have M_rows : MCal P w K mg base (He.ga K "Reader") "rows" 1 ["self"] (spRdRows K (He.ga K "Opened") (He.ga K "Reader")) := ⟨oR.c, _, f_rr, ok_rd_rows F_rr bi rc, He.meth_ok (c.d.fact 95 (f := .meth "Reader" "rows") rfl), FunD.bindsN (ps := ["self"]) F_rr (fun _ _ _ _ _ _ us hl => match us, hl with | [_], _ => rfl)⟩
  have M_turn : MCal P w K mg base (He.ga K "Reader") "_turn" 3 ["self"] (spTurn K (He.ga K "Opened") (He.ga K "Reader")) := ⟨oR.c, _, f_ru, ok_turn F_ru bi rc MO M_lacks, He.meth_ok (c.d.fact 97 (f := .meth "Reader" "_turn") rfl), FunD.bindsN (ps := ["self"]) F_ru (fun _ _ _ _ _ _ us hl => match us, hl with | [_], _ => rfl)⟩
  have M_begin : MCal P w K mg base (He.ga K "Reader") "_begin" 4 ["self", "text"] (spBegin K (He.ga K "Opened") (He.ga K "Reader")) := ⟨oR.c, _, f_rb, ok_begin F_rb bi rc MO C_read_row, He.meth_ok (c.d.fact 98 (f := .meth "Reader" "_begin") rfl), FunD.bindsN (ps := ["self", "text"]) F_rb (fun _ _ _ _ _ _ us hl => match us, hl with | [_, _], _ => rfl)⟩
  have M_take : MCal P w K mg base (He.ga K "Reader") "take" 5 ["self", "line"] (spTake K (He.ga K "Opened") (He.ga K "Reader")) := ⟨oR.c, _, f_rt, ok_take F_rt bi bdm mM rc M_close M_turn M_begin, He.meth_ok (c.d.fact 93 (f := .meth "Reader" "take") rfl), FunD.bindsN (ps := ["self", "line"]) F_rt (fun _ _ _ _ _ _ us hl => match us, hl with | [_, _], _ => rfl)⟩
  have C_read_with : CalX P w K mg base "read_with" 6 ["reader", "text"] (spReadWith K (He.ga K "Opened") (He.ga K "Reader") (He.ga K "BadText")) := ⟨_, f_read_with, ok_read_with NT F_read_with bi rc M_take M_over M_rows, glo X G c 18 _ rfl, F_read_with.kp, FunD.bindsN (ps := ["reader", "text"]) F_read_with fun _ _ _ _ _ _ us hl => match us, hl with | [_, _], _ => rfl⟩
  have C_read_program : CalX P w K mg base "read_program" 18 ["text"] (spReadProg K (He.ga K "Program") (He.ga K "BadText") (He.ga K "BadProgram")) := ⟨_, f_read_program, ok_read_program F_read_program bi MR MX C_read_with, glo X G c 19 _ rfl, F_read_program.kp, FunD.bindsN (ps := ["text"]) F_read_program fun _ _ _ _ _ _ us hl => match us, hl with | [_], _ => rfl⟩
  have C__law_hand : Cal P w K mg base "_law_hand" 1 ["_law_script"] (spHand K) := ⟨_, f__law_hand, ok_hand F__law_hand bi, glo X G c 20 _ rfl, F__law_hand.kp, FunD.bindsN (ps := ["_law_script"]) F__law_hand fun _ _ _ _ _ _ us hl => match us, hl with | [_], _ => rfl⟩
  have C__law_draw : Cal P w K mg base "_law_draw" 1 ["_law_hand_here", "_law_many"] (spDraw) := ⟨_, f__law_draw, ok_draw F__law_draw bi, glo X G c 21 _ rfl, F__law_draw.kp, FunD.bindsN (ps := ["_law_hand_here", "_law_many"]) F__law_draw fun _ _ _ _ _ _ us hl => match us, hl with | [_, _], _ => rfl⟩
  have C__law_any : Cal P w K mg base "_law_any" 2 ["_law_hand_here", "_law_things"] (spAny K) := ⟨_, f__law_any, ok_any F__law_any bi C__law_draw, glo X G c 22 _ rfl, F__law_any.kp, FunD.bindsN (ps := ["_law_hand_here", "_law_things"]) F__law_any fun _ _ _ _ _ _ us hl => match us, hl with | [_, _], _ => rfl⟩
  have D__law_any : Cal P w K mg base "_law_any" 2 ["_law_hand_here", "_law_things"] (spAnyS) := ⟨_, f__law_any, ok_anyS F__law_any bi C__law_draw, glo X G c 22 _ rfl, F__law_any.kp, FunD.bindsN (ps := ["_law_hand_here", "_law_things"]) F__law_any fun _ _ _ _ _ _ us hl => match us, hl with | [_, _], _ => rfl⟩
  have C__law_deep : Cal P w K mg base "_law_deep" 2 ["_law_hand_here"] (spDeepS K) := ⟨_, f__law_deep, ok_deepS F__law_deep bi C__law_draw, glo X G c 34 _ rfl, F__law_deep.kp, FunD.bindsN (ps := ["_law_hand_here"]) F__law_deep fun _ _ _ _ _ _ us hl => match us, hl with | [_], _ => rfl⟩
  have C__law_plain_row : Cal P w K mg base "_law_plain_row" 3 ["_law_hand_here", "_law_names_here", "_law_ops"] (spLPlain K) := ⟨_, f__law_plain_row, ok_lplain F__law_plain_row bi C__law_draw C__law_any, glo X G c 23 _ rfl, F__law_plain_row.kp, FunD.bindsN (ps := ["_law_hand_here", "_law_names_here", "_law_ops"]) F__law_plain_row fun _ _ _ _ _ _ us hl => match us, hl with | [_, _, _], _ => rfl⟩
  have C0__law_size : Cal P w K mg base "_law_size" 1 ["_law_block_here"] (spLSize K 0) := ⟨_, f__law_size, ok_lsize0 _, glo X G c 25 _ rfl, F__law_size.kp, FunD.bindsN (ps := ["_law_block_here"]) F__law_size fun _ _ _ _ _ _ us hl => match us, hl with | [_], _ => rfl⟩
  have C1__law_size : Cal P w K mg base "_law_size" 2 ["_law_block_here"] (spLSize K 1) := ⟨_, f__law_size, ok_lsize1 F__law_size bi C0__law_size, glo X G c 25 _ rfl, F__law_size.kp, FunD.bindsN (ps := ["_law_block_here"]) F__law_size fun _ _ _ _ _ _ us hl => match us, hl with | [_], _ => rfl⟩
  have C2__law_size : Cal P w K mg base "_law_size" 3 ["_law_block_here"] (spLSize K 2) := ⟨_, f__law_size, ok_lsize1 F__law_size bi C1__law_size, glo X G c 25 _ rfl, F__law_size.kp, FunD.bindsN (ps := ["_law_block_here"]) F__law_size fun _ _ _ _ _ _ us hl => match us, hl with | [_], _ => rfl⟩
  have C3__law_size : Cal P w K mg base "_law_size" 4 ["_law_block_here"] (spLSize K 3) := ⟨_, f__law_size, ok_lsize1 F__law_size bi C2__law_size, glo X G c 25 _ rfl, F__law_size.kp, FunD.bindsN (ps := ["_law_block_here"]) F__law_size fun _ _ _ _ _ _ us hl => match us, hl with | [_], _ => rfl⟩
  have C4__law_size : Cal P w K mg base "_law_size" 5 ["_law_block_here"] (spLSize K 4) := ⟨_, f__law_size, ok_lsize1 F__law_size bi C3__law_size, glo X G c 25 _ rfl, F__law_size.kp, FunD.bindsN (ps := ["_law_block_here"]) F__law_size fun _ _ _ _ _ _ us hl => match us, hl with | [_], _ => rfl⟩
  have C0__law_rows : Cal P w K mg base "_law_rows" 1 ["_law_block_here"] (spRowsOf K 0) := ⟨_, f__law_rows, ok_lrows0 _, glo X G c 27 _ rfl, F__law_rows.kp, FunD.bindsN (ps := ["_law_block_here"]) F__law_rows fun _ _ _ _ _ _ us hl => match us, hl with | [_], _ => rfl⟩
  have C1__law_rows : Cal P w K mg base "_law_rows" 2 ["_law_block_here"] (spRowsOf K 1) := ⟨_, f__law_rows, ok_lrows1 F__law_rows bi C0__law_rows, glo X G c 27 _ rfl, F__law_rows.kp, FunD.bindsN (ps := ["_law_block_here"]) F__law_rows fun _ _ _ _ _ _ us hl => match us, hl with | [_], _ => rfl⟩
  have C2__law_rows : Cal P w K mg base "_law_rows" 3 ["_law_block_here"] (spRowsOf K 2) := ⟨_, f__law_rows, ok_lrows1 F__law_rows bi C1__law_rows, glo X G c 27 _ rfl, F__law_rows.kp, FunD.bindsN (ps := ["_law_block_here"]) F__law_rows fun _ _ _ _ _ _ us hl => match us, hl with | [_], _ => rfl⟩
  have C3__law_rows : Cal P w K mg base "_law_rows" 4 ["_law_block_here"] (spRowsOf K 3) := ⟨_, f__law_rows, ok_lrows1 F__law_rows bi C2__law_rows, glo X G c 27 _ rfl, F__law_rows.kp, FunD.bindsN (ps := ["_law_block_here"]) F__law_rows fun _ _ _ _ _ _ us hl => match us, hl with | [_], _ => rfl⟩
  have C4__law_rows : Cal P w K mg base "_law_rows" 5 ["_law_block_here"] (spRowsOf K 4) := ⟨_, f__law_rows, ok_lrows1 F__law_rows bi C3__law_rows, glo X G c 27 _ rfl, F__law_rows.kp, FunD.bindsN (ps := ["_law_block_here"]) F__law_rows fun _ _ _ _ _ _ us hl => match us, hl with | [_], _ => rfl⟩
  have C0__law_block : Cal P w K mg base "_law_block" 5 ["_law_hand_here", "_law_names_here", "_law_ops", "_law_deep_here", "_law_most"] (spLBlock K 0) := ⟨_, f__law_block, ok_lblock0 _, glo X G c 24 _ rfl, F__law_block.kp, FunD.bindsN (ps := ["_law_hand_here", "_law_names_here", "_law_ops", "_law_deep_here", "_law_most"]) F__law_block fun _ _ _ _ _ _ us hl => match us, hl with | [_, _, _, _, _], _ => rfl⟩
  have C1__law_block : Cal P w K mg base "_law_block" 6 ["_law_hand_here", "_law_names_here", "_law_ops", "_law_deep_here", "_law_most"] (spLBlock K 1) := ⟨_, f__law_block, ok_lblock1 F__law_block bi C__law_draw C__law_plain_row C4__law_size C0__law_block, glo X G c 24 _ rfl, F__law_block.kp, FunD.bindsN (ps := ["_law_hand_here", "_law_names_here", "_law_ops", "_law_deep_here", "_law_most"]) F__law_block fun _ _ _ _ _ _ us hl => match us, hl with | [_, _, _, _, _], _ => rfl⟩
  have C2__law_block : Cal P w K mg base "_law_block" 7 ["_law_hand_here", "_law_names_here", "_law_ops", "_law_deep_here", "_law_most"] (spLBlock K 2) := ⟨_, f__law_block, ok_lblock1 F__law_block bi C__law_draw C__law_plain_row C4__law_size C1__law_block, glo X G c 24 _ rfl, F__law_block.kp, FunD.bindsN (ps := ["_law_hand_here", "_law_names_here", "_law_ops", "_law_deep_here", "_law_most"]) F__law_block fun _ _ _ _ _ _ us hl => match us, hl with | [_, _, _, _, _], _ => rfl⟩
  have C3__law_block : Cal P w K mg base "_law_block" 8 ["_law_hand_here", "_law_names_here", "_law_ops", "_law_deep_here", "_law_most"] (spLBlock K 3) := ⟨_, f__law_block, ok_lblock1 F__law_block bi C__law_draw C__law_plain_row C4__law_size C2__law_block, glo X G c 24 _ rfl, F__law_block.kp, FunD.bindsN (ps := ["_law_hand_here", "_law_names_here", "_law_ops", "_law_deep_here", "_law_most"]) F__law_block fun _ _ _ _ _ _ us hl => match us, hl with | [_, _, _, _, _], _ => rfl⟩
  have C4__law_block : Cal P w K mg base "_law_block" 9 ["_law_hand_here", "_law_names_here", "_law_ops", "_law_deep_here", "_law_most"] (spLBlock K 4) := ⟨_, f__law_block, ok_lblock1 F__law_block bi C__law_draw C__law_plain_row C4__law_size C3__law_block, glo X G c 24 _ rfl, F__law_block.kp, FunD.bindsN (ps := ["_law_hand_here", "_law_names_here", "_law_ops", "_law_deep_here", "_law_most"]) F__law_block fun _ _ _ _ _ _ us hl => match us, hl with | [_, _, _, _, _], _ => rfl⟩
  have C__law_drawn : Cal P w K mg base "_law_drawn" 10 ["_law_hand_here"] (spLDrawn K) := ⟨_, f__law_drawn, ok_ldrawn F__law_drawn bi C__law_draw C__law_any C4__law_block, glo X G c 26 _ rfl, F__law_drawn.kp, FunD.bindsN (ps := ["_law_hand_here"]) F__law_drawn fun _ _ _ _ _ _ us hl => match us, hl with | [_], _ => rfl⟩
  have C__law_row_text : Cal P w K mg base "_law_row_text" 1 ["_law_row"] (spLRowText K) := ⟨_, f__law_row_text, ok_lrow_text F__law_row_text bi, glo X G c 35 _ rfl, F__law_row_text.kp, FunD.bindsN (ps := ["_law_row"]) F__law_row_text fun _ _ _ _ _ _ us hl => match us, hl with | [_], _ => rfl⟩
  have C0__law_lines : Cal P w K mg base "_law_lines" 1 ["_law_block_here", "_law_deep_here"] (spLLines K 0) := ⟨_, f__law_lines, ok_llines0 _, glo X G c 36 _ rfl, F__law_lines.kp, FunD.bindsN (ps := ["_law_block_here", "_law_deep_here"]) F__law_lines fun _ _ _ _ _ _ us hl => match us, hl with | [_, _], _ => rfl⟩
  have C1__law_lines : Cal P w K mg base "_law_lines" 2 ["_law_block_here", "_law_deep_here"] (spLLines K 1) := ⟨_, f__law_lines, ok_llines1 F__law_lines bi C__law_row_text C0__law_lines, glo X G c 36 _ rfl, F__law_lines.kp, FunD.bindsN (ps := ["_law_block_here", "_law_deep_here"]) F__law_lines fun _ _ _ _ _ _ us hl => match us, hl with | [_, _], _ => rfl⟩
  have C2__law_lines : Cal P w K mg base "_law_lines" 3 ["_law_block_here", "_law_deep_here"] (spLLines K 2) := ⟨_, f__law_lines, ok_llines1 F__law_lines bi C__law_row_text C1__law_lines, glo X G c 36 _ rfl, F__law_lines.kp, FunD.bindsN (ps := ["_law_block_here", "_law_deep_here"]) F__law_lines fun _ _ _ _ _ _ us hl => match us, hl with | [_, _], _ => rfl⟩
  have C3__law_lines : Cal P w K mg base "_law_lines" 4 ["_law_block_here", "_law_deep_here"] (spLLines K 3) := ⟨_, f__law_lines, ok_llines1 F__law_lines bi C__law_row_text C2__law_lines, glo X G c 36 _ rfl, F__law_lines.kp, FunD.bindsN (ps := ["_law_block_here", "_law_deep_here"]) F__law_lines fun _ _ _ _ _ _ us hl => match us, hl with | [_, _], _ => rfl⟩
  have C4__law_lines : Cal P w K mg base "_law_lines" 5 ["_law_block_here", "_law_deep_here"] (spLLines K 4) := ⟨_, f__law_lines, ok_llines1 F__law_lines bi C__law_row_text C3__law_lines, glo X G c 36 _ rfl, F__law_lines.kp, FunD.bindsN (ps := ["_law_block_here", "_law_deep_here"]) F__law_lines fun _ _ _ _ _ _ us hl => match us, hl with | [_, _], _ => rfl⟩
  have C__law_names : Cal P w K mg base "_law_names" 6 ["_law_block_here"] (spLNamesW K) := ⟨_, f__law_names, ok_lnames F__law_names bi C4__law_rows, glo X G c 28 _ rfl, F__law_names.kp, FunD.bindsN (ps := ["_law_block_here"]) F__law_names fun _ _ _ _ _ _ us hl => match us, hl with | [_], _ => rfl⟩
  have C__law_is_int : Cal P w K mg base "_law_is_int" 1 ["_law_thing"] (spIsInt K) := ⟨_, f__law_is_int, ok_lis_int F__law_is_int bi, glo X G c 29 _ rfl, F__law_is_int.kp, FunD.bindsN (ps := ["_law_thing"]) F__law_is_int fun _ _ _ _ _ _ us hl => match us, hl with | [_], _ => rfl⟩
  have C__law_is_name : Cal P w K mg base "_law_is_name" 1 ["_law_thing"] (spNameD K (He.ga K "Program")) := ⟨_, f__law_is_name, ok_lnameD O F__law_is_name bi, glo X G c 30 _ rfl, F__law_is_name.kp, FunD.bindsN (ps := ["_law_thing"]) F__law_is_name fun _ _ _ _ _ _ us hl => match us, hl with | [_], _ => rfl⟩
  have C__law_is_row : Cal P w K mg base "_law_is_row" 2 ["_law_row", "_law_deep_here"] (spLRowD K (He.ga K "Program")) := ⟨_, f__law_is_row, ok_lrowD O F__law_is_row bi C__law_is_name C__law_is_int, glo X G c 31 _ rfl, F__law_is_row.kp, FunD.bindsN (ps := ["_law_row", "_law_deep_here"]) F__law_is_row fun _ _ _ _ _ _ us hl => match us, hl with | [_, _], _ => rfl⟩
  have C0__law_first_wrong : Cal P w K mg base "_law_first_wrong" 2 ["_law_block_here", "_law_deep_here", "_law_count"] (spLFirst K (He.ga K "Program") 0) := ⟨_, f__law_first_wrong, ok_lfirst0 _, glo X G c 32 _ rfl, F__law_first_wrong.kp, FunD.bindsN (ps := ["_law_block_here", "_law_deep_here", "_law_count"]) F__law_first_wrong fun _ _ _ _ _ _ us hl => match us, hl with | [_, _, _], _ => rfl⟩
  have C1__law_first_wrong : Cal P w K mg base "_law_first_wrong" 3 ["_law_block_here", "_law_deep_here", "_law_count"] (spLFirst K (He.ga K "Program") 1) := ⟨_, f__law_first_wrong, ok_lfirst1 F__law_first_wrong bi C__law_is_row C0__law_first_wrong, glo X G c 32 _ rfl, F__law_first_wrong.kp, FunD.bindsN (ps := ["_law_block_here", "_law_deep_here", "_law_count"]) F__law_first_wrong fun _ _ _ _ _ _ us hl => match us, hl with | [_, _, _], _ => rfl⟩
  have C2__law_first_wrong : Cal P w K mg base "_law_first_wrong" 4 ["_law_block_here", "_law_deep_here", "_law_count"] (spLFirst K (He.ga K "Program") 2) := ⟨_, f__law_first_wrong, ok_lfirst1 F__law_first_wrong bi C__law_is_row C1__law_first_wrong, glo X G c 32 _ rfl, F__law_first_wrong.kp, FunD.bindsN (ps := ["_law_block_here", "_law_deep_here", "_law_count"]) F__law_first_wrong fun _ _ _ _ _ _ us hl => match us, hl with | [_, _, _], _ => rfl⟩
  have C3__law_first_wrong : Cal P w K mg base "_law_first_wrong" 5 ["_law_block_here", "_law_deep_here", "_law_count"] (spLFirst K (He.ga K "Program") 3) := ⟨_, f__law_first_wrong, ok_lfirst1 F__law_first_wrong bi C__law_is_row C2__law_first_wrong, glo X G c 32 _ rfl, F__law_first_wrong.kp, FunD.bindsN (ps := ["_law_block_here", "_law_deep_here", "_law_count"]) F__law_first_wrong fun _ _ _ _ _ _ us hl => match us, hl with | [_, _, _], _ => rfl⟩
  have C4__law_first_wrong : Cal P w K mg base "_law_first_wrong" 6 ["_law_block_here", "_law_deep_here", "_law_count"] (spLFirst K (He.ga K "Program") 4) := ⟨_, f__law_first_wrong, ok_lfirst1 F__law_first_wrong bi C__law_is_row C3__law_first_wrong, glo X G c 32 _ rfl, F__law_first_wrong.kp, FunD.bindsN (ps := ["_law_block_here", "_law_deep_here", "_law_count"]) F__law_first_wrong fun _ _ _ _ _ _ us hl => match us, hl with | [_, _, _], _ => rfl⟩
  have C__law_wrong : Cal P w K mg base "_law_wrong" 7 ["_law_block_here"] (spLWrong K (He.ga K "Program")) := ⟨_, f__law_wrong, ok_lwrong O F__law_wrong bi C4__law_first_wrong C4__law_size C__law_names, glo X G c 33 _ rfl, F__law_wrong.kp, FunD.bindsN (ps := ["_law_block_here"]) F__law_wrong fun _ _ _ _ _ _ us hl => match us, hl with | [_], _ => rfl⟩
  have C__law_number : Cal P w K mg base "_law_number" 1 ["_law_word"] (spLNumber) := ⟨_, f__law_number, ok_lnumber F__law_number bi, glo X G c 37 _ rfl, F__law_number.kp, FunD.bindsN (ps := ["_law_word"]) F__law_number fun _ _ _ _ _ _ us hl => match us, hl with | [_], _ => rfl⟩
  have C__law_plain : Cal P w K mg base "_law_plain" 2 ["_law_body"] (spLPlainT K) := ⟨_, f__law_plain, ok_lplainT F__law_plain bi C__law_is_name C__law_number, glo X G c 38 _ rfl, F__law_plain.kp, FunD.bindsN (ps := ["_law_body"]) F__law_plain fun _ _ _ _ _ _ us hl => match us, hl with | [_], _ => rfl⟩
  have C__law_closed : Cal P w K mg base "_law_closed" 1 ["_law_frames"] (spLClosed K) := ⟨_, f__law_closed, ok_lclosed F__law_closed bi, glo X G c 39 _ rfl, F__law_closed.kp, FunD.bindsN (ps := ["_law_frames"]) F__law_closed fun _ _ _ _ _ _ us hl => match us, hl with | [_], _ => rfl⟩
  have C__law_taken : Cal P w K mg base "_law_taken" 3 ["_law_frames", "_law_line"] (spLTaken K) := ⟨_, f__law_taken, ok_ltaken F__law_taken bi C__law_closed C__law_plain, glo X G c 40 _ rfl, F__law_taken.kp, FunD.bindsN (ps := ["_law_frames", "_law_line"]) F__law_taken fun _ _ _ _ _ _ us hl => match us, hl with | [_, _], _ => rfl⟩
  have C__law_due : Cal P w K mg base "_law_due" 8 ["_law_text"] (spLDue K) := ⟨_, f__law_due, ok_ldue F__law_due bi C__law_closed C__law_taken C__law_wrong, glo X G c 41 _ rfl, F__law_due.kp, FunD.bindsN (ps := ["_law_text"]) F__law_due fun _ _ _ _ _ _ us hl => match us, hl with | [_], _ => rfl⟩
  have xT : ErX K mg "BadText" "line" (He.ga K "BadText") := ⟨g_BadText, eT.xf, noT, exT⟩
  have xB : ErX K mg "BadProgram" "place" (He.ga K "BadProgram") := ⟨g_BadProgram, eB.xf, noB, exB⟩
  have C__law_told : Cal P w K mg base "_law_told" 19 ["_law_text"] (spLDue K) := ⟨_, f__law_told, ok_ltold F__law_told bi pc xT xB exBT g_PileError C_read_program, glo X G c 42 _ rfl, F__law_told.kp, FunD.bindsN (ps := ["_law_text"]) F__law_told fun _ _ _ _ _ _ us hl => match us, hl with | [_], _ => rfl⟩
  have C__law_changed : Cal P w K mg base "_law_changed" 3 ["_law_hand_here", "_law_text"] (spLChanged) := ⟨_, f__law_changed, ok_lchanged F__law_changed bi C__law_draw D__law_any, glo X G c 43 _ rfl, F__law_changed.kp, FunD.bindsN (ps := ["_law_hand_here", "_law_text"]) F__law_changed fun _ _ _ _ _ _ us hl => match us, hl with | [_, _], _ => rfl⟩
  have C__law_nested : Cal P w K mg base "_law_nested" 3 ["_law_hand_here"] (spLNested) := ⟨_, f__law_nested, ok_lnested F__law_nested bi C__law_draw C__law_any, glo X G c 44 _ rfl, F__law_nested.kp, FunD.bindsN (ps := ["_law_hand_here"]) F__law_nested fun _ _ _ _ _ _ us hl => match us, hl with | [_], _ => rfl⟩
  exact ok_law (C := He.ga K "Program") O F_law {
    bi := bi
    hand := C__law_hand
    draw := C__law_draw
    deep := C__law_deep
    drawn := C__law_drawn
    lines := C4__law_lines
    changed := C__law_changed
    nested := C__law_nested
    told := C__law_told
    due := C__law_due } MP (by decide)
end K05
open PySem PySem.W PySem.Calls PyProof.Rows
theorem PySem.Challenge.cw_putoffpiles_k05_whole_first_wrong_lines_holds : PySem.Challenge.rw_putoffpiles_k05_whole_first_wrong_lines.Holds := by
  w_on; o_law
  refine HandSHeadRun.head_any (r := OpenLaw.row PySem.Challenge.rw_putoffpiles_k05_whole_first_wrong_lines) (q := view (OpenLaw.row PySem.Challenge.rw_putoffpiles_k05_whole_first_wrong_lines).prog [65]) (H := K05.hk) (ob := K05.ob) (M := 20000) (loose := K05.loose) (d := HandSHeadRun.topDef (OpenLaw.row PySem.Challenge.rw_putoffpiles_k05_whole_first_wrong_lines).prog 65) (kwd := []) K05.ob_eq
    (by kernel_rfl) (fun s => by kernel_rfl) K05.run (by kernel_rfl) (by kernel_rfl) (by kernel_rfl) (by rfl) (by first | assumption | decide +kernel) (by decide +kernel) ⟨rfl, rfl, rfl, rfl, rfl, by decide +kernel⟩ ?hw ?hc
  case hw => w_witness2
  case hc =>
    refine L2.walk_ofE (l := PySem.Challenge.rw_putoffpiles_k05_whole_first_wrong_lines) (n := 63) (k := 20) (x := "_law_script") (CX := L2.CX0) rfl (by decide) (by kernel_rfl) ⟨rfl, by decide, by decide⟩ ?F (fun _ _ _ _ z => z)
    intro w mg fa h Y G hmg0
    obtain ⟨K, KX, c⟩ := Y
    have hmg : mg ("law" : PySem.Str) = some (.ref fa) := by
      have e : (HandSHeadRun.topDef (OpenLaw.row PySem.Challenge.rw_putoffpiles_k05_whole_first_wrong_lines).prog 65).name = ("law" : PySem.Str) := by kernel_rfl
      rw [← e]
      exact hmg0
    obtain ⟨fd, hb, hF⟩ := K05.facts (P := (PySem.Challenge.rw_putoffpiles_k05_whole_first_wrong_lines).prog) (w := w) KX G hmg c
    exact ⟨K, fd, K05.spLaw K, KX, hb, fun H a ns hl _ hS => ⟨a, ns, rfl, hS, hl, fun _ => rfl⟩, hF⟩
