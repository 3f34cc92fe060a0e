import PyProof.Rows.All
import Wide.All
import OpenK.AllK
import Wide.FinOn
import KE.KExcIs
import KE.KEqDict
import PyProof.NeKinds
import HandS.ForMost
import HandS.Exc
import HandS.ExcInit
import HandS.ExcField
import HandS.IsInst
import HandS.DeepEq
import HandS.ExcIs
import HandS.SetFor
import KE.KDictLaw
import KE.KSuper
import HandS.Nested
import HandS.Style
import HandS.Star
import KE.GoesMore
import HandS.Walk
import HandS.Set
import HandS.Strs
import HandS.SetBool
import HandS.DictComp
import HandS.More
import HandS.OwnEq
import HandS.Defaults
import HandS.HeadHook2
import PySem.Challenge.RW_putoffpiles_k24_whole_holders_follow_eac
import HandS.RevTup
import PyProof.Rows.SortShellAny
import HandS.ExcValue
import HandS.TryOnly
import HandS.Iter
import HandS.Dict
import HandS.WordsDict
import HandS.NoneIn
import PyProof.AutoSeq1
import HandS.SortInts
import HandS.TupAny
import HandS.Zip
import HandS.WideBits
import KE.KDictDisplayH
import HandS.Head0
import HandS.Head1
import HandS.Head2
import HandS.HeadEnd
import HandS.HeadHook1
set_option Elab.async false
set_option linter.all false
set_option maxRecDepth 100000
set_option maxHeartbeats 2000000
/-! Rules of my own: an own exception as a value (made, its field read, isinstance), and != of a thing and itself. -/
namespace ZX
open PySem PySem.Spec PyProof.Rows L2

/-- C(e, ..) as a value, C's own __init__ keeping sp -/
def tMkV (C : Addr) (sp : Sp) (ta : TA) : TE := fun σ H Q => ta σ H fun vs H1 => vs.length ≤ 1000 ∧ ∀ a, H1 a = none → sp (.ref a :: vs) (upd H1 a (exo a C none)) (fun v H2 => v = .non ∧ Q (.ref a) H2) (fun _ _ _ => False)
section
variable {X : Cx} {o e : Expr} {es : List Expr} {to te : TE} {ta : TA} {f x : Str} {p p' p1 p2 pos : Pos} {C fI : Addr} {k : Nat} {fd : FuncData} {ps : List Str} {sp : Sp}
theorem run_oex {pins : List (Addr × Obj)} {s1 : Shared} {σ : L2.St} {H1 : Hp} {Q : VK} {us : List Value} {vs : List V} (T : OexC X.K C) (iC : PySem.W.findIn X.K (.ref C) "__init__" = some (some (.ref fI))) (tI : PySem.W.typeIn X.K (.ref fI) = some (.type "function"))
    (F1 : FnOk X.prog X.w X.K X.mg X.base CX0 k fI fd ps sp) (hr : Room (k + 1) X.A) (hb : Binds X.K fd ps []) (I1 : Inv X pins σ H1 s1) (r1 : Vals vs us) (hz : vs.length ≤ 1000)
    (q1 : ∀ a, H1 a = none → sp (.ref a :: vs) (upd H1 a (exo a C none)) (fun v H2 => v = .non ∧ Q (.ref a) H2) (fun _ _ _ => False)) :
    wpAny (model X.prog X.w) X.A (call (.ref C) us) (EP X pins σ Q) X.xe s1 := by
  obtain ⟨nm, q, N, bs, bm, sn, sub, ab, col, dd, k0, k1, k2, k3, k5, hC, hbm⟩ := T.cls
  obtain ⟨hp, g, dr, tk, os⟩ := s1
  have hsz : hp.objs.size ≤ hp.objs.size + 1 := Nat.le_succ _
  have hn : H1 (hp.objs.size + 1) = none := I1.hok.fresh hsz
  have hq := q1 (hp.objs.size + 1) hn
  have kk : ∀ b o, hp.get? b = some o → ((hp.push (PySem.W.kdv_tup us)).push (PySem.HandSPX.excO C hp.objs.size)).get? b = some o := fun b o e => Heap.get?_push_of_some _ (Heap.get?_push_of_some _ e)
  have hget : ((hp.push (PySem.W.kdv_tup us)).push (PySem.HandSPX.excO C hp.objs.size)).get? (hp.objs.size + 1) = some (PySem.HandSPX.excO C hp.objs.size) := by heap_get
  have I2 : Inv X pins σ (upd H1 (hp.objs.size + 1) (exo (hp.objs.size + 1) C none)) ⟨(hp.push (PySem.W.kdv_tup us)).push (PySem.HandSPX.excO C hp.objs.size), g, dr, tk, os⟩ :=
    I1.laid (t' := tk) (a := hp.objs.size + 1) (o := exo (hp.objs.size + 1) C none) (h' := (hp.push (PySem.W.kdv_tup us)).push (PySem.HandSPX.excO C hp.objs.size)) kk hsz (exo_ok hget)
  have hq2 : sp (.ref (hp.objs.size + 1) :: (vs ++ [])) (upd H1 (hp.objs.size + 1) (exo (hp.objs.size + 1) C none)) (fun v H2 => v = .non ∧ Q (.ref (hp.objs.size + 1)) H2) (fun _ _ _ => False) := by
    rw [List.append_nil]
    exact hq
  have r2 : Vals (V.ref (hp.objs.size + 1) :: (vs ++ [])) (Value.ref (hp.objs.size + 1) :: (us ++ [])) := .cons rfl (r1.append .nil)
  have hl : (Value.ref (hp.objs.size + 1) :: us ++ []).length = ps.length := by
    have e := r2.length
    rw [F1.len _ _ _ _ hq2] at e
    exact e.symm
  have hus : us.length ≤ sizeLine := by
    rw [← Paired.length r1, sizeLine_eq]
    omega
  have hbz := hb ⟨(hp.push (PySem.W.kdv_tup us)).push (PySem.HandSPX.excO C hp.objs.size), g, dr, tk, os⟩ (Value.ref (hp.objs.size + 1) :: us) I2.kIn hl
  rw [List.cons_append] at hbz
  refine wpAny_call (PySem.HandSPX.call_own F.excBase_ValueError (fun Y => PySem.HandSPX.refsVE_contains Y bm hbm) (I1.kIn _ _ hC) (PySem.W.looks_findIn I1.kIn iC) (fun self => PySem.W.bind_fn I1.kIn self tI) hus
    (codeAny_mono (F1.run _ X.stack _ _ ⟨Value.ref (hp.objs.size + 1) :: us, []⟩ (Value.ref (hp.objs.size + 1) :: (us ++ [])) _ _ (fun _ _ _ => False) (hr.make C us []) (I2.env0.make C us []) hbz r2 hq2) fun r s' hq' => ?_))
  cases r with
  | error er => exact False.elim hq'
  | ok fl =>
    cases fl with
    | ret u =>
      obtain ⟨v, H2, os2, bare2, un2, hok2, rv, ev, q2⟩ := hq'
      subst ev
      obtain ⟨h2, g2, d2, t2, os'⟩ := s'
      exact ⟨rv, .ref _, H2, I2.call' (ch := []) os2 un2 hok2 bare2 (fun b z => absurd z (by simp)), rfl, q2⟩
    | next => exact False.elim hq'
    | brk => exact False.elim hq'
    | cont => exact False.elim hq'
theorem pe_oex (T : OexC X.K C) (iC : PySem.W.findIn X.K (.ref C) "__init__" = some (some (.ref fI))) (tI : PySem.W.typeIn X.K (.ref fI) = some (.type "function"))
    (F1 : FnOk X.prog X.w X.K X.mg X.base CX0 k fI fd ps sp) (hr : Room (k + 1) X.A) (hb : Binds X.K fd ps []) (hg : Gl X x) (hm : X.mg x = some (.ref C)) (ha : PA X (e :: es) ta)
    (hdb : (x == ("__debug__" : Str)) = false := by decide) (he : starEach (e :: es) X.env = (false, eval e X.env) :: starEach es X.env := by rfl) (hpl : (backTo pos (starEach es X.env)).any (·.1) = false := by rfl) :
    PE X (.Call (.Name x p) (e :: es) [] pos) (tMkV C sp ta) := by
  refine ⟨fun pins s σ H Q I h => ?_⟩
  refine wpAny_Call_Name_kw (ld_glob I hg hm ?_ hdb)
  refine PySem.W.callWith_K (h₀ := X.base) I.ok.mod.kin T.kC (thn (ha.run pos pins s σ H _ I h) fun us s1 ⟨vs, H1, I1, r1, hz, q1⟩ => ⟨I1.kIn, ?_⟩) he hpl
  exact run_oex T iC tI F1 hr hb I1 r1 hz q1
theorem pe_oex0 (T : OexC X.K C) (iC : PySem.W.findIn X.K (.ref C) "__init__" = some (some (.ref fI))) (tI : PySem.W.typeIn X.K (.ref fI) = some (.type "function"))
    (F1 : FnOk X.prog X.w X.K X.mg X.base CX0 k fI fd ps sp) (hr : Room (k + 1) X.A) (hb : Binds X.K fd ps []) (hg : Gl X x) (hm : X.mg x = some (.ref C))
    (hdb : (x == ("__debug__" : Str)) = false := by decide) :
    PE X (.Call (.Name x p) [] [] pos) (tMkV C sp tNil) := by
  refine ⟨fun pins s σ H Q I h => ?_⟩
  refine wpAny_Call_Name_kw (ld_glob I hg hm ?_ hdb)
  exact PySem.W.callWith_K0 I.kIn T.kC (run_oex (us := []) (vs := []) T iC tI F1 hr hb I .nil h.1 h.2)

/-- e.f of an exception that stands as a value -/
def tXv (K : PySem.W.Frag) (f : Str) (te : TE) : TE := fun σ H Q => te σ H fun x H1 => ∃ (a C dd : Addr) (fs : List (Str × V)) (v : V), x = .ref a ∧ XfC K C ∧ PySem.W.findIn K (.ref C) f = some none ∧ H1 a = some (exo a C (some dd)) ∧ H1 dd = some (exd dd fs) ∧ fs.lookup f = some v ∧ Q v H1
theorem pe_xv (he : PE X e te) (hb : attributeBase e f X.env (eval e X.env) = eval e X.env := by rfl) : PE X (.Attribute e f pos) (tXv X.K f te) := by
  refine ⟨fun pins s σ H Q I h => ?_⟩
  refine attr_of hb (thn (he.run pins s σ H _ I h) fun u s1 hh => ?_)
  obtain ⟨x, H1, I1, rx, a, C, dd, fs, v, ex, T, hno, ea, ed, l, q⟩ := hh
  subst ex
  obtain rfl : u = Value.ref a := rx
  obtain ⟨t1, ha⟩ := exo_at I1.hok ea
  obtain ⟨mA, hns, hr⟩ := exd_at I1.hok ed
  obtain ⟨od, ho, hl⟩ := lookIn_ns hns
  obtain ⟨u, hu, ru⟩ := RelO.some_of (v := v) (o := mA f) (by rw [← l]; exact hr f)
  have J : PySem.W.InstAt s1.heap a _ C (some od) := ⟨ha, rfl, rfl, ho⟩
  exact HandSPX.exc_get I1.kIn J T.ga T.gg T.exC (PySem.W.findObj_own T.hdC hno rfl (by rw [hl, hu])) (handed_of ru) ⟨v, H1, I1.tok _, ru, q⟩

/-- isinstance(e, c), e an exception that stands as a value -/
def rIsV (K : PySem.W.Frag) : List V → Hp → VK → Prop := fun xs H Q => ∃ (a D : Addr) (c : V) (cv : Value) (b : Bool), xs = [.ref a, c] ∧ L2.ExcC K D ∧ ((H a = some (exo a D none)) ∨ ∃ dd fs, H a = some (exo a D (some dd)) ∧ H dd = some (exd dd fs)) ∧ ClsV c cv ∧ PySem.W.kitOne K (.ref D) cv = some b ∧ Q (.bl b) H
theorem call_isV : CallR X (.builtin "isinstance") (rIsV X.K) := by
  intro pins s σ H xs us Q I r h
  obtain ⟨a, D, c, cv, b, rfl, C, ha, hc, e, q⟩ := h
  obtain ⟨u1, u2, rfl, r1, r2⟩ := vals2 r
  have ec := hc.eq r2
  subst ec
  cases (show u1 = Value.ref a from r1)
  have hcl : (PySem.W.clsIn X.K D).isSome = true := by
    obtain ⟨cd, hc, _⟩ := PySem.W.any_some C.hd
    exact Option.isSome_iff_exists.mpr ⟨cd, hc⟩
  rcases ha with ha | ⟨dd, fs, ha, hd⟩
  · obtain ⟨t1, hg⟩ := exo_at I.hok ha
    have J : PySem.W.InstAt s.heap a _ D none := ⟨hg, rfl, rfl, trivial⟩
    exact PySem.W.kia_one (PySem.W.kitx_exc hcl C.hg C.hk C.hs C.ha C.hn C.ht C.hm) I.kIn J e (fun z => nomatch z) fun tk => ⟨.bl b, H, I.kept (t' := tk) fun _ _ z => z, rfl, q⟩
  · obtain ⟨t1, hg⟩ := exo_at I.hok ha
    obtain ⟨mA, hns, hr⟩ := exd_at I.hok hd
    obtain ⟨od, ho, hl⟩ := lookIn_ns hns
    have J : PySem.W.InstAt s.heap a _ D (some od) := ⟨hg, rfl, rfl, ho⟩
    exact PySem.W.kia_one (PySem.W.kitx_exc hcl C.hg C.hk C.hs C.ha C.hn C.ht C.hm) I.kIn J e (fun z => nomatch z) fun tk => ⟨.bl b, H, I.kept (t' := tk) fun _ _ z => z, rfl, q⟩

/-- x != x: False, x a number, a flag, None, a text, a list, a tuple, a dict -/
def Selfy (H : Hp) : V → Prop
  | .non => True
  | .bl _ => True
  | .int _ => True
  | .str _ => True
  | .ref a => (∃ xs, H a = some (.lst xs)) ∨ (∃ xs, H a = some (.tup xs)) ∨ ∃ kvs, H a = some (.dK kvs)
  | _ => False
def rNeS : R2 := fun x y H Q => x = y ∧ Selfy H x ∧ Q (.bl false) H
theorem keqHits_self {κ : Type} [DecidableEq κ] {A : Around} {s : Shared} {kb : List (κ × Value)} : ∀ l : List (κ × Value), (∀ p ∈ l, ∃ y, valueAt kb p.1 = some y ∧ y = p.2) → PySem.W.KeqHits A s kb l true
  | [], _ => .nil
  | (k, v) :: r, h => by
    obtain ⟨y, hy, e⟩ := h (k, v) List.mem_cons_self
    subst e
    show PySem.W.KeqHits A s kb ((k, y) :: r) (true && true)
    exact .hit hy (SeqAt.EqAt.same _) (keqHits_self r fun p hp => h p (List.mem_cons_of_mem _ hp))
theorem op_neS (hu : X.A.units < cLine) : OpR X (compareOp .NotEq) rNeS := by
  intro pins s σ H x y v u Q I rx ry h
  obtain ⟨rfl, hs, q⟩ := h
  cases x with
  | non => exact op_ne pins s σ H .non .non v u Q I rx ry ⟨rfl, by simpa using q⟩
  | bl b => exact op_ne pins s σ H (.bl b) (.bl b) v u Q I rx ry ⟨rfl, by simpa using q⟩
  | int i => exact op_ne pins s σ H (.int i) (.int i) v u Q I rx ry ⟨rfl, by simpa using q⟩
  | str x => exact op_ne pins s σ H (.str x) (.str x) v u Q I rx ry ⟨rfl, by simpa using q⟩
  | ref a =>
    cases (show v = Value.ref a from rx)
    cases (show u = Value.ref a from ry)
    rcases hs with ⟨xs, ha⟩ | ⟨xs, ha⟩ | ⟨kvs, ha⟩
    · obtain ⟨_, its, n, r, hg⟩ := (show ObjOk X.prog X.w H s.heap a (.lst xs) from I.hok a _ ha)
      have hl : s.heap.IsList a its.toArray := ⟨_, hg, rfl, n, rfl⟩
      refine SeqAt.RcNeAt.lists (e := fun _ => true) hl hl rfl hu (fun j h1 h2 => SeqAt.EqAt.same _) X.prog X.w _ _ ?_
      rw [show ((List.range its.toArray.size).all fun _ => true) = true from List.all_eq_true.mpr fun _ _ => rfl]
      exact ⟨.bl false, H, I, rfl, q⟩
    · obtain ⟨_, its, r, ob, h1, h2, h3⟩ := (show ObjOk X.prog X.w H s.heap a (.tup xs) from I.hok a _ ha)
      have hl : s.heap.IsTuple a its.toArray := ⟨ob, h1, h2, h3⟩
      refine SeqAt.RcNeAt.tuples (e := fun _ => true) hl hl hu (fun j h1 h2 => SeqAt.EqAt.same _) X.prog X.w _ _ ?_
      rw [show ((List.range (min its.toArray.size its.toArray.size)).all fun _ => true) = true from List.all_eq_true.mpr fun _ _ => rfl]
      simp only [beq_self_eq_true, Bool.and_true, Bool.not_true]
      exact ⟨.bl false, H, I, rfl, q⟩
    · obtain ⟨_, ya, va, ra, da⟩ := (show ObjOk X.prog X.w H s.heap a (.dK kvs) from I.hok a _ ha)
      refine PySem.W.keq_ne (knd := mixKind X.prog X.w) (r := true) ya ya da da hu (fun _ => keqHits_self va fun p hp => ?_) ?_
      · obtain ⟨_, _, _, _, _, _, _, _, nd⟩ := da
        exact ⟨p.2, PySem.valueAt_of_mem nd hp, rfl⟩
      · simp only [beq_self_eq_true, Bool.and_true, Bool.not_true]
        exact ⟨.bl false, H, I, rfl, q⟩
  | _ => exact hs.elim
end

/-! ### calls of own defs, cuts, counts -/
/-- a def that may be called by its name -/
structure Cal (P : Program) (w : World) (K : PySem.W.Frag) (mg : Str → Option Value) (base : Heap) (x : Str) (k : Nat) (ps : List Str) (sp : Sp) : Prop where
  ex : ∃ (f : Addr) (fd : FuncData), FnOk P w K mg base CX0 k f fd ps sp ∧ mg x = some (.ref f) ∧ PySem.W.keepIn K (.ref f) = true ∧ Binds K fd ps []
section
variable {X : Cx} {e : Expr} {es : List Expr} {t : TA} {x : Str} {p pos : Pos} {k : Nat} {ps : List Str} {sp : Sp}
theorem pcal (C : Cal X.prog X.w X.K X.mg X.base x k ps sp) (hr : Room k X.A) (hg : Gl X x) (ha : PA X (e :: es) t)
    (hdb : (x == ("__debug__" : Str)) = false := by decide) (he : starEach (e :: es) X.env = (false, eval e X.env) :: starEach es X.env := by rfl) (hpl : (backTo pos (starEach es X.env)).any (·.1) = false := by rfl) :
    PE X (.Call (.Name x p) (e :: es) [] pos) (tCall sp [] E0 t) := by
  obtain ⟨f, fd, G, g, kp, b⟩ := C.ex
  exact pe_call G hr hg g kp b .nil pass0 ha hdb he hpl
def tCut (t u : TS) : TS := fun D σ H => ∃ Mid : L2.St → Hp → Prop, t { D with nx := Mid } σ H ∧ ∀ σ' H', Mid σ' H' → u D σ' H'
theorem pss_cut {st : Stmt} {rest : List Stmt} {t u : TS} (h1 : PS X st t) (h2 : PSs X rest u) : PSs X (st :: rest) (tCut t u) := by
  refine ⟨fun pins s σ H D I h => ?_⟩
  obtain ⟨Mid, hm, hu⟩ := h
  refine wpAny_execs_cons (thn (h1.run pins s σ H { D with nx := Mid } I hm) fun f s1 q => ?_)
  cases f with
  | next =>
    obtain ⟨σ', H', I', q⟩ := q
    exact h2.run pins s1 σ' H' D I' (hu σ' H' q)
  | ret v => exact q
  | brk => exact q
  | cont => exact q
/-- % and // by a positive number that is not written -/
theorem op_modP : OpR X (binaryOp .Mod) (rI (fun _ j => 0 < j) fun i j => .int (i % j)) := op_mod
theorem op_fdivP : OpR X (binaryOp .FloorDiv) (rI CDiv fun i j => .int (i / j)) := op_fdiv
end
/-- only the object at p may have changed -/
def Ch (p : Addr) (H H' : Hp) : Prop := ∀ b, b ≠ p → H' b = H b
theorem Ch.refl (p : Addr) (H : Hp) : Ch p H H := fun _ _ => rfl
theorem Ch.upd {p : Addr} {H H' : Hp} (c : Ch p H H') (o : HO) : Ch p H (upd H' p o) := fun b hb => by
  rw [upd_ne hb]
  exact c b hb
theorem Ch.trans {p : Addr} {H H1 H2 : Hp} (a : Ch p H H1) (b : Ch p H1 H2) : Ch p H H2 := fun c hc => (b c hc).trans (a c hc)
/-- all that was tracked but p stands -/
def Kp (p : Addr) (H H' : Hp) : Prop := ∀ b o, b ≠ p → H b = some o → H' b = some o
theorem Ch.kp {p : Addr} {H H' : Hp} (c : Ch p H H') : Kp p H H' := fun b o hb e => by
  rw [c b hb]
  exact e
theorem Kp.refl (p : Addr) (H : Hp) : Kp p H H := fun _ _ _ e => e
theorem Kp.trans {p : Addr} {H H1 H2 : Hp} (a : Kp p H H1) (b : Kp p H1 H2) : Kp p H H2 := fun c o hc e => b c o hc (a c o hc e)
theorem Kp.new {p a : Addr} {H H' : Hp} {o : HO} (k : Kp p H H') (n : H' a = none) : Kp p H (upd H' a o) := fun b u hb e => by
  have z := k b u hb e
  rw [upd_ne (ne_of_none z n)]
  exact z
theorem Kp.seq {K : PySem.W.Frag} {p : Addr} {H H' : Hp} {a : Addr} {xs : List V} (e : Kp p H H') (ne : a ≠ p) (h : SqL K H a xs) : SqL K H' a xs := by
  rcases h with (h | ⟨o, h⟩) | h
  · exact .inl (.inl (e _ _ ne h))
  · exact .inl (.inr ⟨o, e _ _ ne h⟩)
  · exact .inr h
/-- xs.count(y): flat things -/
def rCntV (K : PySem.W.Frag) : V → List V → Hp → VK → Prop := fun x xs H Q => ∃ (p : Addr) (ys : List V) (y : V), x = .ref p ∧ xs = [y] ∧ SqL K H p ys ∧ flatV y = true ∧ ys.all flatV = true ∧ Q (.int (ys.countP fun z => eqV z y)) H
theorem countP_eqU {y : V} : ∀ {ys : List V} {us : List Value}, Vals ys us → ys.all flatV = true → us.countP (eqU y) = ys.countP fun z => eqV z y
  | _, _, .nil, _ => rfl
  | z :: ys, u :: us, .cons r t, h => by
    have h' : (flatV z && ys.all flatV) = true := h
    obtain ⟨h1, h2⟩ := Bool.and_eq_true_iff.mp h'
    rw [List.countP_cons, List.countP_cons, countP_eqU t h2, eqU_of r h1]
theorem mt_lcountV {X : Cx} : MtR X "list.count" (rCntV X.K) := by
  intro pins s σ H x xs v us Q I rx rxs h
  obtain ⟨p, ys, y, rfl, rfl, hs, fy, fys, q⟩ := h
  cases rx
  obtain ⟨u, rfl, ru⟩ := rxs.one
  obtain ⟨its, rv, ⟨⟨cls, dd, data, sl⟩, n, ho, hc, hdn, hd⟩, hlen⟩ := I.list hs
  simp only at hc hd
  subst hc hd
  refine call_meets PySem.F.slot_list_count ⟨_, ho, rfl⟩ PySem.F.entry_list_count (PySem.F.args_list_count_2 _ _)
    (SeqAt.list_countAt p its.toArray n dd sl u (eqU y)) ⟨ho, fun z hz => mem_eqAt ru fy rv fys z (by simpa using hz), ?_⟩
  have ec : its.toArray.toList.countP (eqU y) = ys.countP fun z => eqV z y := countP_eqU rv fys
  refine ⟨.int (ys.countP fun z => eqV z y), H, I.tok _, ⟨s.toks, ?_⟩, q⟩
  show Value.int ((its.toArray.toList.countP (eqU y) : Nat) : Int) s.toks = _
  rw [ec]
end ZX
set_option Elab.async false
set_option linter.all false
set_option maxRecDepth 100000
set_option maxHeartbeats 4000000
/-! Rules of my own: super().m(e, ..) as a statement of a method. -/
namespace ZR
open PySem PySem.Spec PyProof.Rows L2
/-- statements, run as the code c -/
structure PSsC (X : Cx) (c : Code) (ss : List Stmt) (t : TS) : Prop where
  run : ∀ (pins : List (Addr × Obj)) (s : Shared) (σ : L2.St) (H : Hp) (D : Ends), Inv X pins σ H s → t D σ H → _root_.PySem.wpAt (model X.prog X.w) X.A c (execs ss X.env) (SP X pins D) X.xe s
theorem psc_of {X : Cx} {c : Code} {ss : List Stmt} {t : TS} (h : PSs X ss t) : PSsC X c ss t := ⟨fun pins s σ H D I q => _root_.PySem.wpAt_of_wpAny (h.run pins s σ H D I q)⟩
theorem psc_cons {X : Cx} {c : Code} {st : Stmt} {rest : List Stmt} {t u : TS} (h1 : PS X st t) (h2 : PSsC X c rest u) : PSsC X c (st :: rest) (tSeq t u) := by
  refine ⟨fun pins s σ H D I h => ?_⟩
  refine PySem.ks_wpAt_execs_cons (_root_.PySem.wpAt_of_wpAny (thn (h1.run pins s σ H { D with nx := u D } I h) fun f s1 q => ?_))
  cases f with
  | next =>
    obtain ⟨σ', H', I', q⟩ := q
    exact h2.run pins s1 σ' H' D I' q
  | ret v => exact q
  | brk => exact q
  | cont => exact q
def tCutC (t : TS) (u : TS) : TS := fun D σ H => ∃ Mid : L2.St → Hp → Prop, t { D with nx := Mid } σ H ∧ ∀ σ' H', Mid σ' H' → u D σ' H'
theorem psc_cut {X : Cx} {c : Code} {st : Stmt} {rest : List Stmt} {t u : TS} (h1 : PS X st t) (h2 : PSsC X c rest u) : PSsC X c (st :: rest) (tCutC t u) := by
  refine ⟨fun pins s σ H D I h => ?_⟩
  obtain ⟨Mid, h, hm⟩ := h
  refine PySem.ks_wpAt_execs_cons (_root_.PySem.wpAt_of_wpAny (thn (h1.run pins s σ H { D with nx := Mid } I h) fun f s1 q => ?_))
  cases f with
  | next =>
    obtain ⟨σ', H', I', q⟩ := q
    exact h2.run pins s1 σ' H' D I' (hm _ _ q)
  | ret v => exact q
  | brk => exact q
  | cont => exact q
/-- super().m(e, ..), self in the first slot, the class in the slot j -/
def tSup (j : Nat) (C D : Addr) (sp : Sp) (E : XK) (t : TA) : TS := fun En σ H => ∃ x dx fs, σ[0]? = some (some (.ref x)) ∧ σ[j]? = some (some (.ref D)) ∧ H x = some (.ins C dx fs) ∧ t σ H fun vs H1 => sp (.ref x :: vs) H1 (fun _ H2 => En.nx σ H2) E
/-- what a method that says super() stands on: its code's file, its class, the next class's method -/
structure SupC (P : Program) (K : PySem.W.Frag) (f cda C D f2 : Addr) (m : Str) : Prop where
  fn : ∃ oc od fd osl ar, K.lookup f = some ⟨oc, od, .func fd, osl⟩ ∧ (fd.params.posonlyargs ++ fd.params.args).head? = some ar ∧ ar.arg = ("self" : Str)
  cd : ∃ ccl cdd vs ccs file tf, K.lookup cda = some ⟨ccl, cdd, .fields vs, ccs⟩ ∧ vs[2]? = some (.str file tf) ∧ ((P.main.file : Str) == file) = true
  top : (P.main.scope.names.lookup ("super" : Str)).isSome = false
  cls : ∃ cdD, PySem.W.clsIn K D = some cdD
  clC : ∃ cd, PySem.W.clsIn K C = some cd
  sub : PySem.W.mroIn K C (.ref D) = some true
  any : PySem.W.nsIn K cStatics "thirdparty.any" = some none
  next : PySem.W.ks_superIn K C D m = some (some (.ref f2))
  ty : PySem.W.typeIn K (.ref f2) = some (.type "function")
  fnI : PySem.W.fnIn K f2 = true
theorem boot_super : bootBuiltins "super" = some (.type "super") := by decide +kernel
section
variable {X : Cx} {CX : CXT} {k j : Nat} {f f2 cda C D : Addr} {fd2 : FuncData} {ps2 : List Str} {sp : Sp} {E : XK} {m : Str} {body : List Stmt} {p0 p1 apos pos spos : Pos} {e : Expr} {es : List Expr} {t : TA} {rest : List Stmt} {u : TS} {pl : Sem Bool}
theorem psc_super (S : SupC X.prog X.K f cda C D f2 m) (hfu : X.env.func = some f) (hcode : X.env.code = .ref cda) (hN0 : X.N[0]? = some ("self" : Str)) (hv0 : X.env.scope.names.lookup ("self" : Str) = some .local) (hNj : X.N[j]? = some ("__class__" : Str))
    (hkc : X.env.scope.names.lookup ("__class__" : Str) = some .free) (hks : X.env.scope.names.lookup ("super" : Str) = some .globalImplicit) (hms : X.mg "super" = none)
    (F : FnOk X.prog X.w X.K X.mg X.base CX k f2 fd2 ps2 sp) (hr : Room k X.A) (hb : Binds X.K fd2 ps2 []) (hx : Passes CX X E) (ha : PA X (e :: es) t) (h2 : PSsC X (.func body X.env) rest u) (hn : (m == ("__class__" : Str)) = false := by decide)
    (he : eval (.Call (.Attribute (.Call (.Name "super" p0) [] [] p1) m apos) (e :: es) [] pos) X.env = (do
      let ov ← attributeBase (.Call (.Name "super" p0) [] [] p1) m X.env (eval (.Call (.Name "super" p0) [] [] p1) X.env)
      standAt apos.atName
      let (f, first) ← holding [ov] (getMethod ov m pl)
      callWith pos f first (backTo pos (starEach (e :: es) X.env)) []) := by rfl)
    (hi : interactive X.env = false := by rfl) (hs : swapsWith (.Call (.Attribute (.Call (.Name "super" p0) [] [] p1) m apos) (e :: es) [] pos) none spos.line X.env = pure false := by rfl)
    (hst : starEach (e :: es) X.env = (false, eval e X.env) :: starEach es X.env := by rfl) (hpl : (backTo pos (starEach es X.env)).any (·.1) = false := by rfl) :
    PSsC X (.func body X.env) (.Expr (.Call (.Attribute (.Call (.Name "super" p0) [] [] p1) m apos) (e :: es) [] pos) spos :: rest) (tSeq (tSup j C D sp E t) u) := by
  refine ⟨fun pins s σ H En I h => ?_⟩
  obtain ⟨x, dx, fs, h0, hj, hx0, ht⟩ := h
  obtain ⟨oc, od, fd, osl, ar, kf, hp, har⟩ := S.fn
  obtain ⟨ccl, cdd, vs, ccs, file, tf, kcd, hvs, hfile⟩ := S.cd
  obtain ⟨cdD, hD⟩ := S.cls
  obtain ⟨cdC, hC⟩ := S.clC
  have KX := I.kIn
  obtain ⟨mm, hns, hloc⟩ := id I.loc
  obtain ⟨u0, r0, l0⟩ := hloc 0 _ _ hN0 h0 (.inl hv0)
  obtain rfl : u0 = Value.ref x := r0
  obtain ⟨uj, rj, lj⟩ := hloc j _ _ hNj hj (.inr (.inr hkc))
  obtain rfl : uj = Value.ref D := rj
  have e0 : mm ("self" : Str) = some (.ref x) := by
    rcases l0 with ⟨_, z⟩ | ⟨z | z, _⟩
    · exact z
    · have z : X.env.scope.names.lookup ("self" : Str) = some .cell := z
      rw [hv0] at z
      cases z
    · have z : X.env.scope.names.lookup ("self" : Str) = some .free := z
      rw [hv0] at z
      cases z
  obtain ⟨cc, hcc, hcell⟩ : ∃ c, X.env.cells.lookup ("__class__" : Str) = some c ∧ s.heap.IsCell c (some (.ref D)) := by
    rcases lj with ⟨z, _⟩ | ⟨_, c, z1, z2⟩
    · have z : X.env.scope.names.lookup ("__class__" : Str) = some .local := z
      rw [hkc] at z
      cases z
    · exact ⟨c, z1, z2⟩
  obtain ⟨oD, hD1, hD2⟩ : ∃ oD, s.heap.get? D = some oD ∧ oD.data = .cls cdD := by
    unfold PySem.W.clsIn at hD
    split at hD
    · rename_i c d cd' sl ho
      cases hD
      exact ⟨_, KX _ _ ho, rfl⟩
    · cases hD
  obtain ⟨_, _, _, hxo, _⟩ := id (I.hok x _ hx0)
  have hnC : x ≠ C := fun z => by
    unfold PySem.W.clsIn at hC
    split at hC
    · rename_i c d cd' sl ho
      have q := KX _ _ ho
      rw [← z, hxo] at q
      cases q
    · cases hC
  have hsub := PySem.W.looks_mroIn (M := model X.prog X.w) KX S.sub
  refine PySem.ks_wpAt_execs_cons (PySem.ks_wpAt_Expr_any (PySem.ks_wpAt_MethodCall (pl := pl) ?_ he) hi hs)
  refine PySem.ks_wpAt_super_base (env := X.env) hks hkc hn hfu (KX _ _ kf) rfl hp hcode (KX _ _ kcd) rfl hvs hfile S.top ?_
  obtain ⟨mb, hmb1, hmb2⟩ := I.mod.blt
  refine PySem.W.ks_loadName_global I.ok.kind hks (Calls.loadGlobal_builtin (by rw [I.ok.glob]; exact I.mod.glob.keeps I.bk) hms (by rw [I.ok.blt]; exact hmb1.keeps I.bk) ((hmb2 "super" (by decide)).trans boot_super) ⟨rfl, ?_⟩)
  refine wpAny_loadName_free I.ok.kind hkc hcc hcell ?_
  rw [har]
  refine wpAny_loadName_local I.ok.kind hv0 hns e0 ?_
  obtain ⟨hh, g, d, tk, os⟩ := s
  refine PySem.ks_wpAny_isType_cls hD1 hD2 ⟨rfl, ?_⟩
  refine PySem.ks_wpAny_call_super hD1 hD2 hxo rfl (fun c z => by cases z) hsub fun h' hso kp => ?_
  have I2 : Inv X pins σ H ⟨h', g, d, tk, os⟩ := I.kept (t' := tk) kp
  obtain ⟨of, hof, hofc⟩ : ∃ of, h'.get? f2 = some of ∧ of.cls = .type "function" := by
    have ht' : (X.K.lookup f2).map (·.cls) = some (.type "function") := S.ty
    cases z : X.K.lookup f2 with
    | none => rw [z] at ht'; cases ht'
    | some of => rw [z] at ht'; exact ⟨of, I2.kIn _ _ z, Option.some.inj ht'⟩
  have hsup := S.next
  unfold PySem.W.ks_superIn at hsup
  rw [hC] at hsup
  refine PySem.ks_wpAny_getMethod_super hso (PySem.W.looks_opaque I2.kIn S.any) (l₀ := cdC.mro) (fun A Q E s k q => wpAny_bind ((PySem.W.looks_clsIn I2.kIn hC) A _ E s k (wpAny_pure q))) rfl I2.kIn hsup hof hofc hnC hn ?_
  have I3 : Inv X pins σ H ⟨h'.push { cls := .type "method", data := .fields #[.ref f2, .ref x] }, g, d, tk + 1, os⟩ := I2.kept (t' := tk + 1) fun b o e => Heap.get?_push_of_some _ e
  have hq : (h'.push { cls := .type "method", data := .fields #[.ref f2, .ref x] }).get? h'.objs.size = some (PySem.W.methodObj (.ref f2) (.ref x)) := Heap.get?_push_size _ rfl
  have I4 : Inv X ((h'.objs.size, PySem.W.methodObj (.ref f2) (.ref x)) :: pins) σ H ⟨h'.push { cls := .type "method", data := .fields #[.ref f2, .ref x] }, g, d, tk + 1, os⟩ := I3.pins_of fun p hp => by
    rcases List.mem_cons.mp hp with rfl | hp
    · refine ⟨hq, I2.hok.fresh (Nat.le_refl _), fun z => ?_, I2.nofs (Nat.le_refl _), fun v z => by cases z⟩
      have := I2.lt
      have z : h'.objs.size = X.env.locals := z
      rw [← z] at this
      exact absurd this (Nat.lt_irrefl _)
    · exact I3.pin p (List.mem_append_right _ hp)
  refine wpAny_mono (Q := EP X pins σ fun _ H2 => u En σ H2) (E := X.xe) ?_ (fun v s' q => ?_) fun _ _ z => z
  · show wpAny _ _ (callWith pos (.ref h'.objs.size) [] (backTo pos (starEach (e :: es) X.env)) []) _ _ _
    rw [hst]
    refine PySem.W.callWith_of (P := PySem.W.MethP X.K h'.objs.size f2 (.ref x)) (by show ((false || (backTo pos (starEach es X.env)).any (·.1)) || false) = false; rw [hpl]; rfl) (PySem.W.keeps_M S.fnI) (PySem.Calls.evalArgs_plain ?_)
    have ha' := ha.run pos _ _ σ H _ I4 ht
    rw [hst] at ha'
    refine thn ha' fun us s5 ⟨vs5, H5, I5, r5, q5⟩ => ⟨⟨(I5.pin _ (List.mem_append_right _ List.mem_cons_self)).1, I5.kIn⟩, ?_⟩
    have hq5 := (I5.pin (h'.objs.size, PySem.W.methodObj (.ref f2) (.ref x)) (List.mem_append_right _ List.mem_cons_self)).1
    have I6 : Inv X pins σ H5 s5 := I5.pins_of fun p hp => I5.pin p (List.mem_append_right _ (List.mem_cons_of_mem _ hp))
    refine wpAny_call (PySem.ks_codeAny_call_bound hq5 ?_)
    have r6 : Vals (.ref x :: vs5) (.ref x :: us) := .cons rfl r5
    have hl : ((Value.ref x :: us) ++ []).length = ps2.length := by
      rw [List.append_nil, ← r6.length]
      exact F.len _ _ _ _ q5
    have hbb := hb s5 (Value.ref x :: us) I6.kIn hl
    rw [List.append_nil] at hbb
    refine codeAny_mono (F.run X.A X.stack s5 H5 ⟨Value.ref x :: us, []⟩ (Value.ref x :: us) (.ref x :: vs5) _ E hr I6.env0 hbb r6 q5) fun r s7 hq7 => ?_
    match r, hq7 with
    | .ok (.ret _), z => exact I6.after z
    | .error e7, z => exact hx pins σ H5 s5 e7 s7 I6 z
  · obtain ⟨v2, H2, I7, r7, q7⟩ := q
    exact h2.run pins s' σ H2 En I7 q7
end
/-! ### a method whose closure has its class's cell -/
open NdefX (NScope CellsAt startF envF NF ncx inv_startN)
/-- such a method of the text, as it stands behind the top -/
structure FunC (K : PySem.W.Frag) (F : NF) (D f : Addr) (fd : FuncData) : Prop where
  ex : ∃ (oc : Value) (od : Option Addr) (kV doc pm : Value) (an : Option Addr) (ct : Value) (osl : Array (Option Value)) (cc : Addr) (cl : Value) (cld : Option Addr) (csl : Array (Option Value)),
    F.cl = [(("__class__" : Str), cc)] ∧ fd = PySem.W.fnX F.name F.qual F.params F.body F.scope F.cl .none kV doc pm an (.ref F.c) ct ∧ K.lookup f = some ⟨oc, od, .func fd, osl⟩ ∧ PySem.W.codeIn K (.ref F.c) F.qual = true ∧ K.lookup cc = some ⟨cl, cld, .cell (some (.ref D)), csl⟩
  kp : PySem.W.keepIn K (.ref f) = true
theorem look1 {x y : Str} {c c' : Addr} (h : [(x, c)].lookup y = some c') : y = x ∧ c' = c := by
  rw [List.lookup] at h
  split at h
  · rename_i q
    exact ⟨eq_of_beq q, (Option.some.inj h).symm⟩
  · cases h
section
variable {CX : CXT} {P : Program} {w : World} {K : PySem.W.Frag} {mg : Str → Option Value} {base : Heap} {N ps : List Str} {F : NF} {D f : Addr} {fd : FuncData} {k : Nat} {sp : Sp}
theorem FunC.ok (FC : FunC K F D f fd) (S : NScope N ps [("__class__" : Str)] F.scope) (len : ∀ vs H Q E, sp vs H Q E → vs.length = ps.length)
    (hbody : ∀ (A : Around) (outer : List Env) (s : Shared) (H : Hp) (vs : List V) (Q : VK) (E : XK), Room k (A.deeper (envF F f s.heap.objs.size)) → sp vs H Q E →
      ∃ t, PSsC (ncx CX P w K mg base N F f A outer s H E) (.func F.body (envF F f s.heap.objs.size)) F.body t ∧ t { nx := fun _ H' => Q .non H', rt := Q } (startF N vs [some (.ref D)]) H) :
    FnOk P w K mg base CX (k + 1) f fd ps sp := by
  obtain ⟨oc, od, kV, doc, pm, an, ct, osl, cc, cl, cld, csl, hcl, rfl, lk, hcd, kc⟩ := FC.ex
  refine ⟨len, fun A outer s H args us vs Q E hr e0 hb r hsp => ?_⟩
  have hl := len _ _ _ _ hsp
  have KX : K.In s.heap := e0.mod.kin.keeps fun b o e => (e0.bs b o e).1
  have lim : s.heap.NoLimit := e0.mod.nolimit.keeps fun b o e => (e0.bs b o e).1
  have C : CellsAt F.cl [("__class__" : Str)] [some (.ref D)] s.heap H := by
    have hcc := e0.bs cc _ (e0.mod.kin cc _ kc)
    rw [hcl]
    refine ⟨rfl, fun y c e => ?_, fun x y c e1 e2 => ?_, fun i y e => ?_⟩
    · obtain ⟨_, rfl⟩ := look1 e
      exact ⟨hcc.2, _, _, hcc.1, rfl⟩
    · rw [(look1 e1).1, (look1 e2).1]
    · cases i with
      | zero =>
        cases e
        refine ⟨cc, rfl, fun v ev => ?_⟩
        cases ev
        exact ⟨.ref D, rfl, _, hcc.1, rfl⟩
      | succ i => simp at e
  refine codeAny_call_function hr.depth (KX _ _ lk) rfl S.co S.gen rfl (PySem.W.codeRec_of KX hcd) (hb _ _ _ _ ?_)
  refine wpAny_newFunctionEnv S.nocell (fun ⟨n, _⟩ hy => S.par n (List.of_mem_zip hy).1) (fun h₁ hns hsb => ⟨lim.fresh _ hsb, ?_⟩) S.kind
  show codeAny _ _ (.func F.body (envF F f s.heap.objs.size)) _ _
  refine PySem.ks_codeAny_funcAt ?_
  have kp : ∀ b o, s.heap.get? b = some o → h₁.get? b = some o := fun b o e => hsb.extBut b o (Nat.ne_of_lt (Heap.lt_size e)) (Heap.get?_push_of_some _ e)
  obtain ⟨t, ht, hq⟩ := hbody A outer s H vs Q E (hr.deeper _) hsp
  have I : Inv (ncx CX P w K mg base N F f A outer s H E) [] (startF N vs [some (.ref D)]) H { s with heap := h₁, toks := s.toks + (ps.zip us).length } := inv_startN S hr.hd e0 hl r C hns kp
  refine _root_.PySem.wpAt_mono (ht.run [] _ (startF N vs [some (.ref D)]) H _ I hq) (fun fl s' hs => ?_) fun e s' hs => hs
  match fl, hs with
  | .ret _, ⟨v, _, H2, J, rv, q⟩ => exact ⟨v, H2, J.os, J.bare, J.base, J.hok, rv, q⟩
  | .next, ⟨_, H2, J, q⟩ => exact ⟨.non, H2, J.os, J.bare, J.base, J.hok, rfl, q⟩
  | .brk, ⟨_, _, _, q⟩ => exact q.elim
  | .cont, ⟨_, _, _, q⟩ => exact q.elim
end
end ZR
set_option Elab.async false
set_option linter.all false
set_option maxRecDepth 100000
set_option maxHeartbeats 2000000
/-! Rules of my own: t[::-1] of a tuple. -/
namespace ZR
open PySem PySem.Spec PyProof.Rows L2
section
variable {prog : Program} {w : World} {A : Around} {E : Value → Shared → Prop} {s : Shared}
theorem places_rev (n : Nat) : Builtin.Slice.sliceAdjust none none (-1) (n : Int) = ((n : Int) - 1, -1) ∧ Builtin.Slice.slicePlaces ((n : Int) - 1) (-1) (-1) = n := by
  constructor
  · unfold Builtin.Slice.sliceAdjust
    simp
  · unfold Builtin.Slice.slicePlaces
    simp
    omega
theorem fm_congr {α β : Type} {f g : α → Option β} : ∀ {l : List α}, (∀ x ∈ l, f x = g x) → l.filterMap f = l.filterMap g
  | [], _ => rfl
  | x :: l, h => by
    rw [List.filterMap_cons, List.filterMap_cons, h x List.mem_cons_self, fm_congr fun y hy => h y (List.mem_cons_of_mem _ hy)]
theorem pick_take {α : Type} (r : List α) : ∀ k, (List.range k).filterMap (fun m => r[m]?) = r.take k
  | 0 => rfl
  | k + 1 => by
    rw [List.range_succ, List.filterMap_append, pick_take r k, List.take_add_one]
    cases h : r[k]? <;> simp [h]
theorem pick_rev (xs : Array Value) : ((List.range xs.size).filterMap fun (m : Nat) => xs[(((xs.size : Int) - 1) + (m : Int) * (-1)).toNat]?) = xs.toList.reverse := by
  have e : (List.range xs.size).filterMap (fun (m : Nat) => xs[(((xs.size : Int) - 1) + (m : Int) * (-1)).toNat]?) = (List.range xs.size).filterMap (fun m => xs.toList.reverse[m]?) := by
    refine fm_congr fun m hm => ?_
    have hm' : m < xs.size := List.mem_range.mp hm
    have h1 : (((xs.size : Int) - 1) + (m : Int) * (-1)).toNat = xs.size - 1 - m := by omega
    rw [h1, List.getElem?_reverse (by simpa using hm'), Array.getElem?_toList, Array.length_toList]
  rw [e, pick_take]
  exact List.take_of_length_le (by simp)
theorem applied_rev {sl : Addr} {n : Nat} {u : Tok} {Q : Int × Int × Nat → Shared → Prop} (hs : s.heap.IsSliceOf sl .none .none (.int (-1) u)) (h : Q ((n : Int) - 1, -1, n) s) :
    wpAny (model prog w) A (Builtin.Slice.sliceApplied (.ref sl) (pure (n : Int))) Q E s := by
  obtain ⟨os, hos, hcs, hds⟩ := id hs
  unfold Builtin.Slice.sliceApplied Builtin.Slice.sliceFields
  refine wpAny_bind (wpAny_bind (wpAny_field hos hds (x := .none) rfl (wpAny_bind (wpAny_field hos hds (x := .none) rfl (wpAny_bind (wpAny_field hos hds (x := .int (-1) u) rfl (wpAny_pure ?_)))))))
  refine wpAny_bind (slicePart_int ?_)
  show wpAny _ _ (if ((-1 : Int) == 0) = true then _ else _) _ _ s
  rw [if_neg (by decide)]
  refine wpAny_bind (slicePart_none (wpAny_bind (slicePart_none (wpAny_bind (wpAny_pure ?_)))))
  show wpAny _ _ (match Builtin.Slice.sliceAdjust none none (-1) (n : Int) with | (lo, hi) => pure (lo, (-1 : Int), Builtin.Slice.slicePlaces lo hi (-1))) _ _ s
  rw [(places_rev n).1]
  show wpAny _ _ (pure ((n : Int) - 1, (-1 : Int), Builtin.Slice.slicePlaces ((n : Int) - 1) (-1) (-1))) _ _ s
  rw [(places_rev n).2]
  exact wpAny_pure h
theorem getItem_tuple_rev {t sl : Addr} {items : Array Value} {u : Tok} {Q : Value → Shared → Prop} (ht : IsTup s.heap t items) (hs : s.heap.IsSliceOf sl .none .none (.int (-1) u))
    (h : Q (.ref s.heap.objs.size) { s with heap := s.heap.push { cls := .type "tuple", data := .seq items.toList.reverse.toArray } }) (hsz : items.size ≤ sizeLine) : wpAny (model prog w) A (getItem (.ref t) (.ref sl)) Q E s := by
  have hok : sizeOk (.seq items.toList.reverse.toArray) := by
    show items.toList.reverse.toArray.size ≤ sizeLine
    rw [List.size_toArray, List.length_reverse, Array.length_toList]
    exact hsz
  obtain ⟨os, hos, hcs, hds⟩ := id hs
  have hTs : s.TypeIs (.ref sl) "slice" := ⟨os, hos, hcs⟩
  unfold getItem
  try with_reducible refine wpAny_holding ?_
  first | refine wpAny_bind (wpAny_pure ?_) | skip
  refine wpAny_bind (wpAny_sequenceKey ht.typeIs (by decide) ?_)
  refine wpAny_bind (wpAny_callSpecial?_slot (name := Str.ofString "__getitem__") ht.typeIs PyProof.Rows.slot_tuple_getitem
    (wpAny_call_entry PyProof.Rows.slot_tuple_getitem ht.typeIs entry_tuple_getitem ?_ (args_tuple_getitem _ _)))
  show wpAny _ _ (Builtin.Tuple.tupleItemsOf (.ref t) >>= _) _ _ s
  refine wpAny_bind (tupleItemsOf_ ht ?_)
  refine wpAny_bind (wpAny_typeOf hTs ?_)
  rw [if_pos (by decide)]
  refine wpAny_bind (applied_rev hs ?_)
  have hno : ¬ ((((items.size : Int) - 1) == 0 && (-1 : Int) == 1 && items.size == items.size) = true) := by simp
  show wpAny _ _ (if ((((items.size : Int) - 1) == 0 && (-1 : Int) == 1 && items.size == items.size) = true) then _ else _) _ _ s
  rw [if_neg hno, pick_rev]
  first
    | exact wpAny_bind (m := Builtin.Tuple.tupleExact _) (wpAny_newObj_type (wpAny_pure ⟨_, rfl, wpAny_pure h⟩) hok)
    | exact wpAny_bind (m := Builtin.Tuple.tupleExact _) (wpAny_newObj_type (wpAny_bind (wpAny_pure (wpAny_pure ⟨_, rfl, wpAny_pure h⟩))) hok)
    | exact wpAny_bind (wpAny_bind (m := Builtin.Tuple.tupleExact _) (wpAny_newObj_type (wpAny_pure (wpAny_pure ⟨_, rfl, wpAny_pure h⟩)) hok))
end
/-- t[::-1] of a tuple: a new tuple -/
def tRevT (K : PySem.W.Frag) (te : TE) : TE := fun σ H Q => te σ H fun x H1 => ∃ a xs, x = .ref a ∧ SqT K H1 a xs ∧ ∀ p, H1 p = none → Q (.ref p) (upd H1 p (.tup xs.reverse))
section
variable {X : Cx}
theorem pe_revT {e : Expr} {te : TE} {k : Nat} {p1 p2 p3 pos : Pos} (he : PE X e te) : PE X (.Subscript e (.Slice none none (some (.UnaryOp .USub (.Constant (.int 1) k p1) p2)) p3) pos) (tRevT X.K te) := by
  refine ⟨fun pins s σ H Q I h => ?_⟩
  refine Subscript_ (thn (he.run pins s σ H _ I h) fun v s1 ⟨x, H1, I1, r1, q1⟩ => ?_)
  obtain ⟨a, xs, ex, hx, q⟩ := q1
  subst ex
  cases r1
  have hst : PE X (.UnaryOp .USub (.Constant (.int 1) k p1) p2) (tUn (rU fun i => .int (-i)) (tC (.int 1))) := pe_un un_neg pe_int
  refine wpAny_Slice (thn (po_none.run pins s1 σ H1 (fun o H2 => o = none ∧ H2 = H1) I1 ⟨rfl, rfl⟩) fun vl s2 ⟨l, H2, I2, pl, el, e2⟩ => ?_)
  subst el e2
  refine thn (po_none.run pins s2 σ H2 (fun o H3 => o = none ∧ H3 = H2) I2 ⟨rfl, rfl⟩) fun vu s3 ⟨u, H3, I3, pu, eu, e3⟩ => ?_
  subst eu e3
  have hst2 : PO X (some (.UnaryOp .USub (.Constant (.int 1) k p1) p2)) (tPart (tUn (rU fun i => .int (-i)) (tC (.int 1)))) := po_some hst
  refine thn (hst2.run pins s3 σ H3 (fun o H4 => o = some (-1) ∧ H4 = H3) I3 ⟨1, rfl, -1, rfl, rfl, rfl⟩) fun vs s4 ⟨o, H4, I4, ps, eo, e4⟩ => ?_
  subst eo e4
  cases pl
  cases pu
  obtain ⟨u, rfl⟩ : ∃ u, vs = Value.int (-1) u := by
    cases ps with
    | int i t => exact ⟨_, rfl⟩
  have I5 : Inv X pins σ H4 { s4 with heap := s4.heap.push { cls := .type "slice", data := .fields #[.none, .none, .int (-1) u] } } := I4.kept (t' := s4.toks) fun b ob q => Heap.get?_push_of_some _ q
  obtain ⟨its, r, ht, hz⟩ := I5.tuple hx
  have hlen := r.length
  show wpAny (model X.prog X.w) X.A (subscriptTail e (.Slice none none (some (.UnaryOp .USub (.Constant (.int 1) k p1) p2)) p3) (.ref a) (.ref s4.heap.objs.size)) (EP X pins σ Q) X.xe { s4 with heap := s4.heap.push { cls := .type "slice", data := .fields #[.none, .none, .int (-1) u] } }
  refine tail_any (ops := [.ref a, .ref s4.heap.objs.size]) ht.typeIs PyProof.Rows.slot_tuple_getitem.lookup ?_ (by with_unfolding_all rfl)
  refine getItem_tuple_rev ht (Heap.IsSliceOf.new _ _ _ _) ?_ (by rw [List.size_toArray]; omega)
  refine ⟨.ref _, _, I5.laid (t' := s4.toks) (o := .tup xs.reverse) (fun b ob q => Heap.get?_push_of_some _ q) (Nat.le_refl _) ?_, rfl, q _ (I5.hok.fresh (Nat.le_refl _))⟩
  exact ⟨by rw [List.length_reverse]; exact hz, its.reverse, r.reverse, IsTup.new _ _⟩
end
end ZR
set_option Elab.async false
set_option linter.all false
set_option maxRecDepth 100000
set_option maxHeartbeats 2000000
/-! Rules of my own: for i, x in enumerate(t), t a tuple. -/
namespace ZR
open PySem PySem.Spec PyProof.Rows L2
open AutoSeq1 (wpAny_loadPart')
set_option maxHeartbeats 1000000 in
theorem meets_enum_tup (l : Addr) (items : Array Value) (n : Nat) (dct : Option Addr) (sl : Array (Option Value)) :
    Meets (Builtin.«enumerate.__new__» ⟨[.type "enumerate", .ref l], []⟩) (fun _ R s => s.heap.get? l = some { cls := .type "tuple", dict := dct, data := .seq items n, slots := sl } ∧
      R (.ok (.ret (.ref (s.heap.push { cls := .type "tuple_iterator", data := .fields #[.ref l, .int 0 0] }).objs.size)))
        { s with heap := (s.heap.push { cls := .type "tuple_iterator", data := .fields #[.ref l, .int 0 0] }).push { cls := .type "enumerate", data := .fields #[.none, .bool false, .ref s.heap.objs.size, rawInt 0, .none, .none] } }) :=
  .of_wp fun prog w A R s h => by
    obtain ⟨hp, g, d, tk, os⟩ := s; obtain ⟨hl, h⟩ := h
    have hsub := sub_enumerate
    have hL : Heap.IsTuple (Shared.heap ⟨hp, g, d, tk, os⟩) l items := ⟨_, hl, rfl, n, rfl⟩
    wp_walk using wpAny_loadPart' hl
    refine wpAny_stack_any fun st => wpAny_pure ?_
    split
    · rename_i c _ _ _ _ _
      cases (c == Value.type "enumerate")
      · wp_walk using wpAny_loadPart' hl, wpAny_pyIter_tuple hL
        exact ⟨_, rfl, h⟩
      · wp_walk using wpAny_loadPart' hl, wpAny_pyIter_tuple hL
        exact ⟨_, rfl, h⟩
    · wp_walk using wpAny_loadPart' hl, wpAny_pyIter_tuple hL
      exact ⟨_, rfl, h⟩
section
variable {prog : Program} {w : World} {A : Around} {E : Value → Shared → Prop} {s : Shared}
theorem call_enum_tup {l : Addr} {items : Array Value} {Q : Value → Shared → Prop} (hL : IsTup s.heap l items)
    (h : ∀ h', IsEnum h' (s.heap.objs.size + 1) s.heap.objs.size 0 .none → h'.IsTupleIter s.heap.objs.size l 0 →
      (∀ b o, s.heap.get? b = some o → h'.get? b = some o) → Q (.ref (s.heap.objs.size + 1)) { s with heap := h' }) :
    wpAny (model prog w) A (call (.type "enumerate") [.ref l]) Q E s := by
  obtain ⟨⟨c, dct, dt, sl⟩, hl, hc, n, hd⟩ := hL
  replace hc : c = .type "tuple" := hc
  replace hd : dt = .seq items n := hd
  subst hc hd
  refine callType_new F.called_enumerate (by decide) (F.typeCall_enumerate_1 _) (F.newCall_enumerate_1 _) (fun obj => F.args_object_init_2 obj _) F.entry_enumerate_new
    (meets_enum_tup l items n dct sl) ⟨hl, ?_⟩
  have hz : (s.heap.push { cls := .type "tuple_iterator", data := .fields #[.ref l, .int 0 0] }).objs.size = s.heap.objs.size + 1 := Heap.size_push ..
  show _ ∧ _
  rw [hz]
  have he : IsEnum ((s.heap.push { cls := .type "tuple_iterator", data := .fields #[.ref l, .int 0 0] }).push
      { cls := .type "enumerate", data := .fields #[.none, .bool false, .ref s.heap.objs.size, rawInt 0, .none, .none] }) (s.heap.objs.size + 1) s.heap.objs.size 0 .none := by
    have := Heap.get?_push_size (s.heap.push { cls := .type "tuple_iterator", data := .fields #[.ref l, .int 0 0] })
      (o := { cls := .type "enumerate", data := .fields #[.none, .bool false, .ref s.heap.objs.size, rawInt 0, .none, .none] }) rfl
    rw [hz] at this
    exact this
  exact ⟨⟨_, he, rfl⟩, h _ he ⟨_, Heap.get?_push_of_some _ (Heap.get?_push_size _ rfl), rfl, rfl⟩ fun b o x => Heap.get?_push_of_some _ (Heap.get?_push_of_some _ x)⟩
end
/-- the tuple at a, each item in a new pair with its number -/
def Itet (K : PySem.W.Frag) (a : Addr) : It :=
  ⟨fun i H => ∃ (xs : List V) (x : V), SqT K H a xs ∧ xs[i]? = some x, fun i H v H' => ∃ T x, v = .ref T ∧ H T = none ∧ H' = upd H T (.tup [.int (i : Nat), x]) ∧ ∀ xs, SqT K H a xs → xs[i]? = some x, fun i H => ∃ xs : List V, SqT K H a xs ∧ xs.length = i⟩
theorem turn_enumT {P : Program} {w : World} {K : PySem.W.Frag} {elts : List Expr} {kk : Nat} {tpos : Pos} (a e it : Addr) :
    Turn P w K (.Tuple elts kk tpos) (Itet K a) [e, it] e (fun i h => (∃ old, IsEnum h e it ((i : Nat) : Int) old) ∧ h.IsTupleIter it a i ∧ e ≠ it) where
  mem := by simp
  obj := fun i h st b hb => by
    obtain ⟨⟨old, he⟩, ⟨o, ho, hc, hd⟩, _⟩ := st
    have e' : b = e ∨ b = it := by simpa using hb
    rcases e' with z | z
    · rw [z]; exact ⟨_, he, fun v q => nomatch q⟩
    · rw [z]; exact ⟨o, ho, fun v q => by rw [hd] at q; cases q⟩
  keep := fun i h h' st k => let ⟨⟨old, he⟩, hi, hne⟩ := st; ⟨⟨old, k e (by simp) _ he⟩, hi.at fun o q => k it (by simp) o q, hne⟩
  item := by
    intro X hP hw hK hc i pins s σ H E I hf st hg
    subst hP hw hK
    obtain ⟨⟨old, he⟩, hit, hne⟩ := st
    obtain ⟨xs, x, hq, hx⟩ := hg
    obtain ⟨its, rv, p, hz⟩ := I.tuple hq
    obtain ⟨u, hu, ru⟩ := rv.get hx
    have hel : e < s.heap.objs.size := Heap.lt_size he
    have hil : it < s.heap.objs.size := by obtain ⟨_, q, _⟩ := hit; exact Heap.lt_size q
    have hae : a ≠ e := fun z => by
      obtain ⟨o, ho, hc, _⟩ := p
      rw [z] at ho
      have he' : s.heap.get? e = some _ := he
      rw [he'] at ho
      cases ho
      injection hc with q
      exact absurd q (by decide)
    have hai : a ≠ it := fun z => by
      obtain ⟨o, ho, hc, _⟩ := p
      obtain ⟨o2, ho2, hc2, _⟩ := hit
      rw [z, ho2] at ho
      cases ho
      rw [hc2] at hc
      injection hc with q
      exact absurd q (by decide)
    have D := Draws.tuple (prog := X.prog) (w := X.w) (A := X.A.in1) (I.ok.hd hc) it a hai its.toArray
    have hlt : i < its.toArray.size := by
      rw [List.size_toArray]
      exact (List.getElem?_eq_some_iff.mp hu).1
    refine wpAny_pyNext_enum_itemD D he ⟨hit, p⟩ hlt hne (by simp [hae.symm, hne]) fun x' h' tk hx' ho st' hT hsz hk => ?_
    have ex : x' = u := by
      have z : its.toArray[i]? = some x' := hx'
      rw [List.getElem?_toArray, hu] at z
      exact (Option.some.inj z).symm
    subst ex
    refine ⟨_, rfl, wpAny_letOwnedTupleGo_enum (s := { s with heap := h', toks := tk + 1 }) ho fun h'' he' sb => ?_⟩
    have hT2 : h''.get? s.heap.objs.size = some { cls := .type "tuple", data := .seq #[.int i tk, x'] } := (sb.2 _ (Nat.ne_of_gt hel)).trans hT
    have new : ObjOk X.prog X.w (upd H s.heap.objs.size (.tup [.int (i : Nat), x])) h'' s.heap.objs.size (.tup [.int (i : Nat), x]) :=
      ⟨by show 2 ≤ sizeLine; decide, [.int i tk, x'], .cons ⟨_, rfl⟩ (.cons ru .nil), ⟨_, hT2, rfl, _, rfl⟩⟩
    have I1 : Inv X pins σ (upd H s.heap.objs.size (.tup [.int (i : Nat), x])) { s with heap := h'', toks := tk + 1 } :=
      I.turnedNew (ch := [e, it]) (fun b ob hb q => (sb.2 b (fun z => hb (by simp [z]))).trans (hk b ob (fun z => hb (by simp [z])) (fun z => hb (by simp [z])) q)) hf (Nat.le_refl _) new
    refine ⟨.ref s.heap.objs.size, _, I1, rfl, ⟨_, x, rfl, I.hok.fresh (Nat.le_refl _), rfl, fun ys hy => ?_⟩, ⟨⟨x', ?_⟩, st'.1.at fun o q => (sb.2 it (Ne.symm hne)).trans q, hne⟩, fun b hb => ?_⟩
    · rw [I.tuple_inj hy hq]
      exact hx
    · have e1 : ((i + 1 : Nat) : Int) = (i : Int) + 1 := by omega
      rw [e1]; exact he'
    · have hb' : b < s.heap.objs.size := by
        have e' : b = e ∨ b = it := by simpa using hb
        rcases e' with z | z
        · rw [z]; exact hel
        · rw [z]; exact hil
      rw [upd_ne (Nat.ne_of_lt hb')]
      exact (hf b hb).1
  done := by
    intro X hP hw hK hc i pins s σ H E I hf st hg
    subst hP hw hK
    obtain ⟨⟨old, he⟩, hit, hne⟩ := st
    obtain ⟨xs, hq, hx⟩ := hg
    obtain ⟨its, rv, p, hz⟩ := I.tuple hq
    obtain ⟨f0, f1, f2, f3, f4, f5⟩ := hf it (by simp)
    have hl := rv.length
    have hai : a ≠ it := fun z => by
      obtain ⟨o, ho, hc, _⟩ := p
      obtain ⟨o2, ho2, hc2, _⟩ := hit
      rw [z, ho2] at ho
      cases ho
      rw [hc2] at hc
      injection hc with q
      exact absurd q (by decide)
    have D := Draws.tuple (prog := X.prog) (w := X.w) (A := X.A.in1) (I.ok.hd hc) it a hai its.toArray
    have hsz : its.toArray.size = i := by
      rw [List.size_toArray, ← hl]
      exact hx
    refine wpAny_pyNext_enum_endD D he (by rw [hsz]; exact ⟨hit, p⟩) fun h' eb => ?_
    exact ⟨rfl, I.turned (t' := s.toks) (fun b o hb q => eb b o hb q) f0 f1 f3 f4 f5⟩
  self := fun A i s Q E st h => let ⟨⟨_, he⟩, _⟩ := st; wpAny_pyIter_enum he h
def iEnumT (K : PySem.W.Frag) (ta : TA) : TI := fun σ H R => ta σ H fun vs H1 => ∃ a xs, vs = [.ref a] ∧ SqT K H1 a xs ∧ R (Itet K a) H1
theorem pi_enumT {X : Cx} {e : Expr} {ta : TA} {p pos tpos : Pos} {elts : List Expr} {kk : Nat} (hg : Gl X "enumerate") (hm : X.mg "enumerate" = none) (ha : PA X [e] ta) (hs : starEach [e] X.env = [(false, eval e X.env)] := by rfl) :
    PI X (.Tuple elts kk tpos) (.Call (.Name "enumerate" p) [e] [] pos) (iEnumT X.K ta) := by
  refine ⟨fun pins s σ H R I h => ?_⟩
  refine Call_ (ld_blt I hg hm boot_enumerate (PyProof.Rows.callWith_type1 (thn (ha.run pos pins s σ H _ I h) fun us s1 ⟨vs, H1, I1, r1, q1⟩ => ?_) hs rfl))
  obtain ⟨a, xs, ex, hq, q⟩ := q1
  subst ex
  cases r1 with
  | cons r rr =>
    cases rr
    cases r
    obtain ⟨its, rv, p', hz⟩ := I1.tuple hq
    refine call_enum_tup p' fun h' he hit hk => wpAny_pyIter_enum he ?_
    have I2 : Inv X pins σ H1 { s1 with heap := h' } := I1.kept (t' := s1.toks) hk
    refine ⟨s1.heap.objs.size + 1, [s1.heap.objs.size + 1, s1.heap.objs.size], _, _, H1, rfl, I2, turn_enumT a (s1.heap.objs.size + 1) s1.heap.objs.size, ⟨⟨.none, he⟩, hit, Nat.succ_ne_self _⟩, fun b hb => ?_, q⟩
    have hle : s1.heap.objs.size ≤ b := by
      have e' : b = s1.heap.objs.size + 1 ∨ b = s1.heap.objs.size := by simpa using hb
      rcases e' with z | z
      · rw [z]; exact Nat.le_add_right _ _
      · rw [z]; exact Nat.le_refl _
    exact I1.fpOk hle (I1.hok.fresh hle)
theorem walk_enumT {K : PySem.W.Frag} {a : Addr} {xs : List V} : Walk (Itet K a) xs.length (fun H => SqT K H a xs) (YPair (fun i => some (.int (i : Nat))) (fun i => xs[i]?)) := by
  refine ⟨fun i _ hi q => ⟨xs, xs[i], q, by simp [hi]⟩, fun _ q => ⟨xs, q, rfl⟩, fun i H v H' _ q y => ?_⟩
  obtain ⟨T, x, h1, h2, h3, h4⟩ := y
  exact ⟨T, .int (i : Nat), x, h1, h2, h3, rfl, h4 xs q⟩
end ZR
set_option Elab.async false
set_option linter.all false
set_option maxRecDepth 100000
set_option maxHeartbeats 4000000
/-! Rules of my own: sets of texts, made by a comprehension of one or two walks, or of a list, and sorted. -/
namespace ZR
open PySem PySem.Spec PyProof.Rows L2
/-- the text of an entry -/
def txt (e : Int × Value) : Str := match e.2 with
  | .str x _ => x
  | _ => Str.empty
/-- entries and table of a set of the texts ks (in some order) -/
structure Tx (w : World) (es : Array (Int × Value)) (t : SetTable) (ks : List Str) : Prop where
  pm : (es.toList.map txt).Perm ks
  gd : ∀ e ∈ es.toList, ∃ x u, e = (hashStr w x, Value.str x u)
  nd : ks.Nodup
  sm : es.size < scanBound
  ft : t.fits es.size = true
  ri : Ris t.place.toList
  ld : w.params.followText "set-order" = true ∨ t.led = true
def SetS (w : World) (h : Heap) (a : Addr) (ks : List Str) : Prop := ∃ o es ep t, h.get? a = some o ∧ o.ExactSet ∧ o.data = .set es ep t ∧ Tx w es t ks
/-- ks with x -/
def ins (x : Str) (ks : List Str) : List Str := if x ∈ ks then ks else ks ++ [x]
theorem SetS.at {w : World} {h h' : Heap} {a : Addr} {ks : List Str} (R : SetS w h a ks) (k : ∀ o, h.get? a = some o → h'.get? a = some o) : SetS w h' a ks := by
  obtain ⟨o, es, ep, t, ho, r⟩ := R
  exact ⟨o, es, ep, t, k o ho, r⟩
section
variable {P : Program} {w : World} {es : Array (Int × Value)} {t : SetTable} {ks : List Str}
theorem Tx.len (T : Tx w es t ks) : es.size = ks.length := by
  rw [← T.pm.length_eq, List.length_map, Array.length_toList]
theorem Tx.elems (T : Tx w es t ks) : ElemsOf (PySem.strKind P w) es.toList := fun e he => by
  obtain ⟨x, u, rfl⟩ := T.gd e he
  exact ⟨⟨x, strKind_is _ _ _ _, rfl⟩, rfl⟩
theorem Tx.mem (T : Tx w es t ks) (x : Str) : x ∈ ks ↔ ∃ e ∈ es.toList, (PySem.strKind P w).is x e.2 = true := by
  rw [← T.pm.mem_iff, List.mem_map]
  constructor
  · rintro ⟨e, he, q⟩
    obtain ⟨y, u, rfl⟩ := T.gd e he
    have e2 : y = x := q
    subst e2
    exact ⟨_, he, strKind_is _ _ _ _⟩
  · rintro ⟨e, he, q⟩
    obtain ⟨y, u, rfl⟩ := T.gd e he
    obtain ⟨u', e2⟩ := Value.isStrOf_shape (show Value.isStrOf x (Value.str y u) = true from q)
    have e3 : y = x := by
      injection e2
    exact ⟨_, he, show y = x from e3⟩
/-- a new text is laid -/
theorem Tx.lay (T : Tx w es t ks) {x : Str} (hx : x ∉ ks) (u : Tok) (room : ks.length + 1 < scanBound) : Tx w (layNew t es (hashStr w x) (.str x u)).1 (layNew t es (hashStr w x) (.str x u)).2.1 (ks ++ [x]) := by
  have p0 := layNew_perm t es (hashStr w x) (.str x u)
  rw [Array.toList_push] at p0
  refine ⟨?_, fun e he => ?_, ?_, ?_, layNew_fits t es _ _, layNew_ris t es _ _ T.ri, T.ld.imp id fun z => by rw [layNew_led t es _ _]; exact z⟩
  · have q := p0.map txt
    rw [List.map_append] at q
    exact q.trans (T.pm.append_right _)
  · rcases List.mem_append.mp (p0.mem_iff.mp he) with z | z
    · exact T.gd e z
    · exact ⟨x, u, List.mem_singleton.mp z⟩
  · exact List.nodup_append.mpr ⟨T.nd, by simp, fun a ha b hb e => hx (by rw [← List.mem_singleton.mp hb, ← e]; exact ha)⟩
  · rw [← Array.length_toList, p0.length_eq, List.length_append, Array.length_toList, T.len]
    exact room
/-- the table is laid anew -/
theorem Tx.relay (T : Tx w es t ks) (n : Nat) : Tx w (relayAll t es n).1 (relayAll t es n).2.1 ks := by
  have p0 := relayAll_perm t es n
  refine ⟨(p0.map txt).trans T.pm, fun e he => T.gd e (p0.mem_iff.mp he), T.nd, ?_, relayAll_fits t es n, relayAll_ris t es n, T.ld.imp id fun z => by rw [relayAll_led t es n]; exact z⟩
  rw [← Array.length_toList, p0.length_eq, Array.length_toList]
  exact T.sm
end
section
variable {P : Program} {w : World} {A : Around} {E : Value → Shared → Prop} {s : Shared} {a : Addr} {ks : List Str}
theorem put_at {h : Heap} {o : Obj} {es es' : Array (Int × Value)} {ep : Nat} {t t' : SetTable} (ho : h.get? a = some o) (hd : o.data = .set es ep t) :
    (h.update a (Obj.putSet es' t')).get? a = some { o with data := .set es' (ep + 1) t' } := by
  have q := Heap.get?_update_self (Obj.putSet es' t') ho (by rw [putSet_of es' t' hd]; rfl)
  rw [putSet_of es' t' hd] at q
  exact q
theorem putS_ok {o : Obj} {es es1 : Array (Int × Value)} {ep : Nat} {t t1 : SetTable} {Q : Unit → Shared → Prop} (ho : s.heap.get? a = some o) (hex : o.ExactSet) (hd : o.data = .set es ep t) (T : Tx w es1 t1 ks)
    (h : ∀ h' o', h'.get? a = some o' → o'.ExactSet → (∃ e', o'.data = .set es1 e' t1) → Heap.SameBut a s.heap h' → Q () { s with heap := h' }) : wpAny (model P w) A (storeSet a es1 t1) Q E s :=
  wpAny_storeSet_of ho hd (h _ _ (put_at ho hd) hex ⟨_, rfl⟩ (Heap.SameBut.update s.heap a _)) (fits_of_scanBound T.sm)
theorem gave_ok {b : Bool} {Q : Unit → Shared → Prop} (q : Q () s) : wpAny (model P w) A (match b with | true => rule "set.scan.the-table-gave-way" | false => pure ()) Q E s := by
  cases b
  · exact wpAny_pure q
  · exact wpAny_rule q
theorem addS_tail {g : Bool → Sem Unit} (hg : ∀ (b : Bool) (s₁ : Shared) (Q' : Unit → Shared → Prop), Q' () s₁ → wpAny (model P w) A (g b) Q' E s₁)
    {o : Obj} {es es1 : Array (Int × Value)} {ep : Nat} {t t1 : SetTable} {wd : Bool} {R : Option Bool → Shared → Prop} (ho : s.heap.get? a = some o) (hex : o.ExactSet) (hd : o.data = .set es ep t) (T : Tx w es1 t1 ks)
    (hR : ∀ h', Heap.SameBut a s.heap h' → SetS w h' a ks → R (some true) { s with heap := h' }) :
    wpAny (model P w) A (do
        storeSet a es1 t1
        if (!wd && t1.tooFull) = true then do
            g (relayAll t1 es1 (SetTable.grown es1.size)).2.2
            storeSet a (relayAll t1 es1 (SetTable.grown es1.size)).1 (relayAll t1 es1 (SetTable.grown es1.size)).2.1
            pure (some true)
          else pure (some true)) R E s := by
  refine wpAny_bind (putS_ok ho hex hd T fun h1 o1 ho1 hex1 ⟨e1, hd1⟩ sb1 => ?_)
  split
  · refine wpAny_bind (hg _ _ _ ?_)
    refine wpAny_bind (putS_ok (s := { s with heap := h1 }) ho1 hex1 hd1 (T.relay _) fun h2 o2 ho2 hex2 ⟨e2, hd2⟩ sb2 => ?_)
    exact wpAny_pure (hR h2 (sb1.trans sb2) ⟨o2, _, e2, _, ho2, hex2, hd2, T.relay _⟩)
  · exact wpAny_pure (hR h1 sb1 ⟨o1, es1, e1, t1, ho1, hex1, hd1, T⟩)
/-- set.add of a text, behind its hash -/
theorem addS_hashed {x : Str} {u : Tok} {Q : Bool → Shared → Prop} (R : SetS w s.heap a ks) (room : ks.length + 1 < scanBound)
    (hQ : ∀ (h' : Heap) (b : Bool), Heap.SameBut a s.heap h' → SetS w h' a (ins x ks) → Q b { s with heap := h' }) :
    wpAny (model P w) A (setAddHashed a (.str x u) ((PySem.strKind P w).hash x)) Q E s := by
  obtain ⟨o, es, ep, t, ho, hex, hd, T⟩ := R
  have hkey : (PySem.strKind P w).is x (.str x u) = true := strKind_is _ _ _ _
  have hsc : (Value.str x u).scannable = true := rfl
  have hel : ElemsOf (PySem.strKind P w) es.toList := T.elems
  unfold setAddHashed setAddHashedIn
  refine wpAny_holding (wpAny_bind (wpAny_setState_of ho hd T.ft ?_))
  dsimp only
  rw [byScan_of hsc T.sm hel]
  simp only [↓reduceIte]
  unfold setAddByScan
  refine wpAny_bind (wpAny_bind (wpAny_rule (wpAny_bind (wpAny_setScan_of hkey ho hd T.ft hel ?_))))
  by_cases hx : x ∈ ks
  · have hf : ∃ j, List.findIdx? (fun e => (PySem.strKind P w).is x e.2) es.toList = some j := by
      cases q : List.findIdx? (fun e => (PySem.strKind P w).is x e.2) es.toList with
      | some j => exact ⟨j, rfl⟩
      | none =>
        obtain ⟨e, he, z⟩ := (T.mem (P := P) x).mp hx
        have c := List.findIdx?_eq_none_iff.mp q e he
        rw [z] at c
        cases c
    obtain ⟨j, hj⟩ := hf
    rw [hj]
    dsimp only
    refine wpAny_pure (wpAny_pure ?_)
    have q : SetS w s.heap a (ins x ks) := by
      unfold ins
      rw [if_pos hx]
      exact ⟨o, es, ep, t, ho, hex, hd, T⟩
    exact hQ s.heap _ (Heap.SameBut.refl a s.heap) q
  · have hf : List.findIdx? (fun e => (PySem.strKind P w).is x e.2) es.toList = none := by
      refine List.findIdx?_eq_none_iff.mpr fun e he => ?_
      cases z : (PySem.strKind P w).is x e.2 with
      | false => rfl
      | true => exact absurd ((T.mem (P := P) x).mpr ⟨e, he, z⟩) hx
    rw [hf]
    dsimp only
    have T1 : Tx w (layNew t es ((PySem.strKind P w).hash x) (.str x u)).1 (layNew t es ((PySem.strKind P w).hash x) (.str x u)).2.1 (ks ++ [x]) := T.lay hx u room
    have ei : ins x ks = ks ++ [x] := if_neg hx
    generalize layNew t es ((PySem.strKind P w).hash x) (.str x u) = Z at T1 ⊢
    obtain ⟨es1, t1, wd, gv⟩ := Z
    dsimp only at T1 ⊢
    refine wpAny_bind (gave_ok ?_)
    have fin : ∀ h', Heap.SameBut a s.heap h' → SetS w h' a (ks ++ [x]) → wpAny (model P w) A (pure true) Q E { s with heap := h' } := fun h' sb r => wpAny_pure (hQ h' true sb (by rw [ei]; exact r))
    split
    · refine wpAny_bind ?_
      rw [hashByValue_scannable 8 hsc]
      refine wpAny_pure ?_
      refine addS_tail ?_ ho hex hd (ks := ks ++ [x]) ?_ ?_
      · intro b s₁ Q' q
        exact gave_ok q
      · split
        · exact T1
        · exact ⟨T1.pm, T1.gd, T1.nd, T1.sm, SetTable.fits_plain_off T1.ft, T1.ri, T1.ld⟩
      · intro h' sb r
        exact fin h' sb r
    · refine wpAny_bind (wpAny_pure ?_)
      simp only [↓reduceIte]
      refine addS_tail ?_ ho hex hd (ks := ks ++ [x]) T1 ?_
      · intro b s₁ Q' q
        exact gave_ok q
      · intro h' sb r
        exact fin h' sb r
end
end ZR
set_option Elab.async false
set_option linter.all false
set_option maxRecDepth 100000
set_option maxHeartbeats 4000000
/-! Rules of my own: {e for t0 in i0 for t1 in i1}, e a text. -/
namespace ZR
open PySem PySem.Spec PyProof.Rows L2
/-! ### sets of texts as tracked things -/
def SetTO (w : World) (a : Addr) (ks : List Str) : HO := .ext fun h => SetS w h a ks
theorem setTO_new {w : World} {P : Program} {H : Hp} {h : Heap} {a : Addr} {ks : List Str} (R : SetS w h a ks) : ObjOk P w H h a (SetTO w a ks) := by
  have ⟨o, _, _, _, ho, _⟩ := R
  exact ⟨R, ⟨o, ho⟩, fun h1 h2 p k => SetS.at p k⟩
theorem setTO_get {X : Cx} {pins : List (Addr × Obj)} {σ : L2.St} {H : Hp} {s : Shared} {a : Addr} {ks : List Str} (I : Inv X pins σ H s) (ha : H a = some (SetTO X.w a ks)) : SetS X.w s.heap a ks := (I.hok a _ ha).1
theorem setS_fresh {h : Heap} (w : World) : SetS w (h.push { cls := .type "set", dict := none, data := .set #[] 0 (.fresh 0 0 (!w.params.followText "set-order")) }) h.objs.size [] :=
  ⟨_, #[], 0, _, Heap.get?_push_size _ rfl, ⟨rfl, rfl, rfl⟩, rfl, .refl _, fun e he => by simp at he, List.nodup_nil, by decide, by rfl, List.Pairwise.nil, by
    show _ ∨ (!w.params.followText "set-order") = true
    cases w.params.followText "set-order"
    · exact .inr rfl
    · exact .inl rfl⟩
section
variable {X : Cx} {pins : List (Addr × Obj)} {σ : L2.St} {H : Hp} {s : Shared} {E : Value → Shared → Prop} {D : Addr} {ks : List Str} {x : Str} {u : Tok} {Q : Value → Shared → Prop}
/-- set.add of a text to a tracked set -/
theorem addT_ok (I : Inv X pins σ H s) (hD : H D = some (SetTO X.w D ks)) (room : ks.length + 1 < scanBound) (h : ∀ s', Inv X pins σ (upd H D (SetTO X.w D (ins x ks))) s' → Q .none s') :
    wpAny (model X.prog X.w) X.A (call (.builtin "set.add") [.ref D, .str x u]) Q E s := by
  have R := setTO_get I hD
  have hT : s.TypeIs (.ref D) "set" := by
    obtain ⟨o, _, _, _, ho, hex, _⟩ := R
    exact ⟨o, ho, hex.1⟩
  refine wpAny_call_entry F.slot_set_add hT F.entry_set_add ?_ (F.args_set_add_2 _ _)
  unfold Builtin.«set.add» Builtin.Frozenset.oneOther
  simp only [List.isEmpty_nil, bind_assoc]
  unfold Builtin.Frozenset.addrOf setAdd
  refine wpAny_bind (wpAny_pure ?_)
  try dsimp only
  refine wpAny_bind (wpAny_pure ?_)
  try dsimp only
  refine wpAny_bind (wpAny_holding (wpAny_bind ((PySem.strKind X.prog X.w).pyHash (k := x) (strKind_is _ _ _ _) ?_)))
  refine addS_hashed (s := { s with toks := s.toks + 1 }) R room fun h' b sb r => ?_
  show wpAny _ _ (ret Value.none) _ _ _
  refine wpAny_pure ⟨_, rfl, ?_⟩
  obtain ⟨o, es, ep, t, ho, rr⟩ := id r
  exact h _ (I.write (e := D) (t' := s.toks + 1) (by rw [hD]; trivial) (.inl rfl) (fun b u hb hu => (sb.2 b hb).trans hu) ⟨o, ho⟩ (setTO_new r))
end
/-! ### the comprehension's code -/
abbrev SC2 (elt t0 i0 t1 i1 : Expr) (sc : Scope) (pos : Pos) : Expr := .SetComp elt [⟨t0, i0, [], 0⟩, ⟨t1, i1, [], 0⟩] sc pos
section
variable {elt t0 i0 t1 i1 : Expr} {sc : Scope} {pos : Pos} {it acc : Value} {env : Env}
theorem turn_0 : compTurn (SC2 elt t0 i0 t1 i1 sc pos) 0 it acc env = (do
    standAt i0.pos
    match ← pyNext it with
    | none => pure (.done .next)
    | some v =>
      letOwnedTupleGo t0 it v
      assign t0 env v
      let x ← eval i1 env
      standAt i1.pos
      let x ← foldedSetIterable i1 env x
      let _ ← runOwn (.compStart (SC2 elt t0 i0 t1 i1 sc pos) 1 (← holding [x] (pyIter x)) acc env) env
      again (.compLoop (SC2 elt t0 i0 t1 i1 sc pos) 0 it acc env)) := by rfl
theorem turn_1 : compTurn (SC2 elt t0 i0 t1 i1 sc pos) 1 it acc env = (do
    standAt i1.pos
    match ← pyNext it with
    | none => pure (.done .next)
    | some v =>
      letOwnedTupleGo t1 it v
      assign t1 env v
      (do let v ← eval elt env; standAt elt.pos; let _ ← call (.builtin "set.add") [acc, v])
      again (.compLoop (SC2 elt t0 i0 t1 i1 sc pos) 1 it acc env)) := by rfl
end
section
variable {prog : Program} {w : World} {A : Around} {R : Result → Shared → Prop} {s : Shared} {elt t0 i0 t1 i1 : Expr} {sc : Scope} {pos : Pos} {it acc : Value} {env : Env}
/-- what is wished where the block raises -/
abbrev Nt (prog : Program) (w : World) (A : Around) (env : Env) (R : Result → Shared → Prop) : Value → Shared → Prop := notedBy (model prog w) A env fun e s' => R (.error e) s'
theorem loop_0 (hs : ∀ x, foldedSetIterable i1 env x = pure x) (I : Nat → Shared → Prop)
    (turn : ∀ n s, I n s → wpAny (model prog w) A (pyNext it) (fun r s1 => match r with
      | none => R (.ok .next) s1
      | some v => wpAny (model prog w) A (letOwnedTupleGo t0 it v) (fun _ s2 => wpAny (model prog w) A (assign t0 env v) (fun _ s3 => wpAny (model prog w) A (eval i1 env) (fun x s4 => wpAny (model prog w) A (pyIter x) (fun it1 s5 =>
          codeAny (model prog w) A (.compStart (SC2 elt t0 i0 t1 i1 sc pos) 1 it1 acc env) (fun r s' => (∃ f, r = .ok f) ∧ ∃ m, m < n ∧ I m s') s5)
        (Nt prog w A env R) s4) (Nt prog w A env R) s3) (Nt prog w A env R) s2) (Nt prog w A env R) s1) (Nt prog w A env R) s)
    (n : Nat) (h : I n s) : codeAny (model prog w) A (.compLoop (SC2 elt t0 i0 t1 i1 sc pos) 0 it acc env) R s := by
  refine codeAny_loop rfl I (fun n s hI => ?_) n h
  show wpAny _ A ((compTurn (SC2 elt t0 i0 t1 i1 sc pos) 0 it acc env).onRaise (fun x => do noteFrame x env; theTreesLotGoes x)) _ _ s
  refine wpAny_noted ?_
  rw [turn_0]
  refine wpAny_bind (wpAny_standAt (wpAny_bind (wpAny_mono (turn n s hI) (fun r s1 h1 => ?_) fun _ _ z => z)))
  cases r with
  | none => exact wpAny_pure h1
  | some v =>
    refine wpAny_bind (wpAny_mono h1 (fun _ s2 h2 => wpAny_bind (wpAny_mono h2 (fun _ s3 h3 => wpAny_bind (wpAny_mono h3 (fun x s4 h4 => ?_) fun _ _ z => z)) fun _ _ z => z)) fun _ _ z => z)
    refine wpAny_bind (wpAny_standAt (wpAny_bind (wpAny_of_eq (hs x) (wpAny_bind (wpAny_holding (wpAny_mono h4 (fun it1 s5 h5 => ?_) fun _ _ z => z))))))
    refine wpAny_bind (wpAny_runOwn ?_)
    rw [Around.mark_none]
    refine codeAny_mono h5 fun r s' hr => ?_
    obtain ⟨⟨f, rfl⟩, hm⟩ := hr
    first
      | exact wpAny_pure ⟨rfl, hm⟩
      | exact wpAny_bind (wpAny_pure (wpAny_pure ⟨rfl, hm⟩))
theorem loop_1 (I : Nat → Shared → Prop)
    (turn : ∀ n s, I n s → wpAny (model prog w) A (pyNext it) (fun r s1 => match r with
      | none => R (.ok .next) s1
      | some v => wpAny (model prog w) A (letOwnedTupleGo t1 it v) (fun _ s2 => wpAny (model prog w) A (assign t1 env v) (fun _ s3 => wpAny (model prog w) A (eval elt env) (fun x s4 =>
          wpAny (model prog w) A (call (.builtin "set.add") [acc, x]) (fun _ s' => ∃ m, m < n ∧ I m s')
        (Nt prog w A env R) s4) (Nt prog w A env R) s3) (Nt prog w A env R) s2) (Nt prog w A env R) s1) (Nt prog w A env R) s)
    (n : Nat) (h : I n s) : codeAny (model prog w) A (.compLoop (SC2 elt t0 i0 t1 i1 sc pos) 1 it acc env) R s := by
  refine codeAny_loop rfl I (fun n s hI => ?_) n h
  show wpAny _ A ((compTurn (SC2 elt t0 i0 t1 i1 sc pos) 1 it acc env).onRaise (fun x => do noteFrame x env; theTreesLotGoes x)) _ _ s
  refine wpAny_noted ?_
  rw [turn_1]
  refine wpAny_bind (wpAny_standAt (wpAny_bind (wpAny_mono (turn n s hI) (fun r s1 h1 => ?_) fun _ _ z => z)))
  cases r with
  | none => exact wpAny_pure h1
  | some v =>
    refine wpAny_bind (wpAny_mono h1 (fun _ s2 h2 => wpAny_bind (wpAny_mono h2 (fun _ s3 h3 => ?_) fun _ _ z => z)) fun _ _ z => z)
    refine wpAny_bind (wpAny_bind (wpAny_mono h3 (fun x s4 h4 => wpAny_bind (wpAny_standAt (wpAny_bind (wpAny_mono h4 (fun _ s' hm => ?_) fun _ _ z => z)))) fun _ _ z => z))
    first
      | exact wpAny_pure (wpAny_pure ⟨rfl, hm⟩)
      | exact wpAny_pure ⟨rfl, hm⟩
theorem start_1 (h0 : codeAny (model prog w) A (.compLoop (SC2 elt t0 i0 t1 i1 sc pos) 1 it acc env) R s)
    (h : wpAny (model prog w) A (pyIter it) (fun it' s' => codeAny (model prog w) A (.compLoop (SC2 elt t0 i0 t1 i1 sc pos) 1 it' acc env) R s') (Nt prog w A env R) s) :
    codeAny (model prog w) A (.compStart (SC2 elt t0 i0 t1 i1 sc pos) 1 it acc env) R s := by
  refine codeAny_of_tree ?_
  show wpAny _ _ ((compStart (SC2 elt t0 i0 t1 i1 sc pos) 1 it acc env).onRaise (fun x => do noteFrame x env; standAt theWindowsPlace)) _ _ s
  refine wpAny_notedAt ?_
  unfold compStart
  show wpAny _ _ (ask >>= _) _ _ s
  refine wpAny_bind (wpAny_askSetting (wpAny_ite ?_))
  split
  · first
      | exact wpAny_bind (wpAny_pure (wpAny_pure (And.intro rfl h0)))
      | exact wpAny_pure (And.intro rfl h0)
  · first
      | exact wpAny_bind (wpAny_rule (wpAny_bind (wpAny_standAt (wpAny_bind (wpAny_mono h (fun it' s' h' => wpAny_pure (And.intro rfl h')) fun _ _ x => x)))))
      | (refine wpAny_bind (wpAny_rule ?_); show wpAny _ _ (standAt i1.pos >>= _) _ _ s; exact wpAny_bind (wpAny_standAt (wpAny_bind (wpAny_mono h (fun it' s' h' => wpAny_pure (And.intro rfl h')) fun _ _ x => x))))
end
end ZR
set_option Elab.async false
set_option linter.all false
set_option maxRecDepth 100000
set_option maxHeartbeats 4000000
namespace ZR
open PySem PySem.Spec PyProof.Rows L2
theorem wipe_keep {x : Option V} {i : Nat} : ∀ {vs : List Nat} {σ : L2.St}, σ[i]? = some x → ¬ i ∈ vs → (wipe σ vs)[i]? = some x
  | [], σ, h, _ => h
  | v :: vs, σ, h, n => by
    show ((wipe σ vs).set v none)[i]? = some x
    have hne : v ≠ i := fun e => n (by rw [e]; exact List.mem_cons_self)
    rw [List.getElem?_set_ne hne]
    exact wipe_keep h fun z => n (List.mem_cons_of_mem _ z)
/-! ### one turn of a walk within a block -/
/-- between two turns -/
def Mid (Y : Cx) (fpw : List Addr) (tn : Nat → Heap → Prop) (π : List (Addr × Obj)) (σ0 : L2.St) (W : Nat → Nat → Hp → Prop) (n : Nat) (s : Shared) : Prop :=
  ∃ i H, Inv Y π σ0 H s ∧ tn i s.heap ∧ (∀ b ∈ fpw, H b = none) ∧ W i n H
theorem walk_turn {Y : Cx} {tg : Expr} {J : It} {fpw : List Addr} {it : Addr} {tn : Nat → Heap → Prop} {π : List (Addr × Obj)} {σ0 : L2.St} {vs : List Nat} {g : TG} {W : Nat → Nat → Hp → Prop} {rest : L2.St → Hp → (Hp → Prop) → Prop} {Qs : Hp → Prop}
    (hc : Y.calm = true) (hx : Y.xe = fun _ _ => False) (T : Turn Y.prog Y.w Y.K tg J fpw it tn) (pg : PG Y tg g) (hst : ∀ H, (∀ b ∈ fpw, H b = none) → ∀ b ∈ fpw, FpOk Y π H b)
    (turn : ∀ i m H, W i m H → (J.stop i H ∧ Qs H) ∨ (J.go i H ∧ ∃ Nx : Hp → Prop, (∀ H', Nx H' → ∃ m', m' < m ∧ W (i + 1) m' H') ∧ ∀ x H', J.yld i H x H' → g x σ0 H' fun σ2 H2 => wipe σ2 vs = σ0 ∧ rest σ2 H2 Nx))
    {n : Nat} {s : Shared} (hK : Mid Y fpw tn π σ0 W n s) {Rn Rb : Shared → Prop} {N : Value → Shared → Prop}
    (hstop : ∀ H s', Inv Y π σ0 H s' → Qs H → Rn s')
    (hgo : ∀ σ8 H8 s8 h7 (Nx : Hp → Prop), Inv Y (π ++ pinsAt fpw h7) σ8 H8 s8 → wipe σ8 vs = σ0 → rest σ8 H8 Nx →
      (∀ σ9 H' s', Inv Y (π ++ pinsAt fpw h7) σ9 H' s' → σ0.length = σ9.length → (∀ (j : Nat) v, σ0[j]? = some (some v) → σ9[j]? = some (some v)) → Nx H' → ∃ m, m < n ∧ Mid Y fpw tn π σ0 W m s') → Rb s8) :
    wpAny (model Y.prog Y.w) Y.A (pyNext (.ref it)) (fun r s1 => match r with
      | none => Rn s1
      | some v => wpAny (model Y.prog Y.w) Y.A (letOwnedTupleGo tg (.ref it) v) (fun _ s2 => wpAny (model Y.prog Y.w) Y.A (assign tg Y.env v) (fun _ s3 => Rb s3) N s2) N s1) N s := by
  obtain ⟨i, H, I, st, hn, w⟩ := hK
  rcases turn i n H w with ⟨stop, q⟩ | ⟨go, Nx, hNx, step⟩
  · refine thnF (T.done Y rfl rfl rfl hc i π s σ0 H (fun _ _ => False) I (hst H hn) st stop) fun r s1 ⟨hr, I1⟩ => ?_
    subst hr
    exact hstop H s1 I1 q
  · refine thnF (T.item Y rfl rfl rfl hc i π s σ0 H (fun _ _ => False) I (hst H hn) st go) fun r s1 ⟨u, hr, h1⟩ => ?_
    subst hr
    refine thnF h1 fun _ s2 ⟨x, H2, I2, r2, y2, st2, n2⟩ => ?_
    have P2 := I2.pinned (hst H2 n2) (T.obj _ _ st2)
    have pr := pg.run _ s2 σ0 H2 x u _ P2 r2 (step x H2 y2)
    rw [hx] at pr
    refine thnF pr fun _ s3 ⟨σ8, H8, I8, hw8, q8⟩ => ?_
    refine hgo σ8 H8 s3 s2.heap Nx I8 hw8 q8 fun σ9 H' s' I' hl hk nx => ?_
    obtain ⟨m', hm, w'⟩ := hNx H' nx
    have pin : ∀ b ∈ fpw, ∀ o, s2.heap.get? b = some o → s'.heap.get? b = some o ∧ H' b = none := fun b hb o e =>
      let z := I'.pin (b, o) (List.mem_append_right _ (List.mem_append_right _ (mem_pinsAt hb e)))
      ⟨z.1, z.2.1⟩
    refine ⟨m', hm, i + 1, H', (I'.unpinned (pins := π)).weak hl hk, T.keep _ _ _ st2 fun b hb o e => (pin b hb o e).1, fun b hb => ?_, w'⟩
    obtain ⟨o, e, _⟩ := T.obj _ _ st2 b hb
    exact (pin b hb o e).2
/-! ### the comprehension -/
/-- {elt for tg in iter for tg1 in iter1}, elt a text; vs: the block's names, vs1: those of the second target -/
def tSc2 (w : World) (wi : TI) (g : TG) (wi1 : TI) (g1 : TG) (te : TE) (vs vs1 : List Nat) : TE := fun σ H Q => wi σ H fun J H1 => ∀ D, H1 D = none → ∃ W : Nat → Nat → Hp → Prop, (∃ m, W 0 m (upd H1 D (SetTO w D []))) ∧ ∀ i m H, W i m H →
  (J.stop i H ∧ Q (.ref D) H) ∨ (J.go i H ∧ ∃ Nx : Hp → Prop, (∀ H', Nx H' → ∃ m', m' < m ∧ W (i + 1) m' H') ∧ ∀ x H', J.yld i H x H' → g x (wipe σ vs) H' fun σ2 H2 => wipe σ2 vs = wipe σ vs ∧
    wi1 σ2 H2 fun J1 H4 => ∃ W1 : Nat → Nat → Hp → Prop, (∃ k, W1 0 k H4) ∧ ∀ j k H, W1 j k H → (J1.stop j H ∧ Nx H) ∨ (J1.go j H ∧ ∃ Nx1 : Hp → Prop, (∀ H', Nx1 H' → ∃ k', k' < k ∧ W1 (j + 1) k' H') ∧
      ∀ x H', J1.yld j H x H' → g1 x (wipe σ2 vs1) H' fun σ3 H5 => wipe σ3 vs1 = wipe σ2 vs1 ∧ te σ3 H5 fun y H6 => ∃ (z : Str) (ks : List Str), y = .str z ∧ H6 D = some (SetTO w D ks) ∧ ks.length + 1 < scanBound ∧ Nx1 (upd H6 D (SetTO w D (ins z ks)))))
section
variable {X : Cx}
theorem pe_sc2 {elt tg iter tg1 iter1 : Expr} {scope : Scope} {own : List (Str × Nat)} {vs1 : List Nat} {pos : Pos} {wi wi1 : TI} {g g1 : TG} {te : TE} (hc : X.calm = true) (hN : X.N.Nodup) (hi : PI X tg iter wi) (ok : BlkOk X.N X.env.scope scope own) (hv : ∀ i ∈ vs1, i ∈ own.map (·.2))
    (hg : ∀ (s : Shared) (H : Hp) (C : Addr) (cl : List (Str × Addr)) (fp : List Addr), PG (X.blk s H scope (compEnvC scope cl C X.env) fp) tg g)
    (hi1 : ∀ (s : Shared) (H : Hp) (C : Addr) (cl : List (Str × Addr)) (fp : List Addr), PI (X.blk s H scope (compEnvC scope cl C X.env) fp) tg1 iter1 wi1)
    (hg1 : ∀ (s : Shared) (H : Hp) (C : Addr) (cl : List (Str × Addr)) (fp : List Addr), PG (X.blk s H scope (compEnvC scope cl C X.env) fp) tg1 g1)
    (he : ∀ (s : Shared) (H : Hp) (C : Addr) (cl : List (Str × Addr)) (fp : List Addr), PE (X.blk s H scope (compEnvC scope cl C X.env) fp) elt te)
    (hs : ∀ x, foldedSetIterable iter X.env x = pure x := by intro _; rfl) (hs1 : ∀ env x, foldedSetIterable iter1 env x = pure x := by intro _ _; rfl) :
    PE X (.SetComp elt [⟨tg, iter, [], 0⟩, ⟨tg1, iter1, [], 0⟩] scope pos) (tSc2 X.w wi g wi1 g1 te (own.map (·.2)) vs1) := by
  refine ⟨fun pins s σ H Q I h => ?_⟩
  rw [PpSet.eval_SetComp]
  have hfree : ∀ y ∈ scope.names, y.2 = .free → ∃ c, X.env.cells.lookup y.1 = some c := fun y hy e => (ok.free y hy e).elim (fun k => I.ok.has _ (.inl k)) fun k => I.ok.has _ (.inr k)
  refine wpAny_comprehension_free (use := none) rfl hs (closure_ok hfree) ok.kind (fun y hy e => by rw [ok.uniq y hy, e])
    (thn (hi.run pins s σ H _ I h) fun xv s1 hx => thn hx fun itv s2 ⟨it, fp, tn, J, H2, e, I2, T, st2, f2, q⟩ => ?_)
  subst e
  refine PpSet.newSet_ok (newEnv_comp ?_)
  -- the new set
  generalize hD : s2.heap.objs.size = D
  obtain ⟨W, ⟨m0, w0⟩, turn⟩ := q D (I2.hok.fresh (Nat.le_of_eq hD))
  generalize hS : ({ s2 with heap := s2.heap.push { cls := .type "set", dict := none, data := .set #[] 0 (.fresh 0 0 (!X.w.params.followText "set-order")) } } : Shared) = s3
  have kp : ∀ b o, s2.heap.get? b = some o → s3.heap.get? b = some o := fun b o e => by
    rw [← hS]
    exact Heap.get?_push_of_some _ e
  have sz3 : s3.heap.objs.size = s2.heap.objs.size + 1 := by
    rw [← hS]
    exact Heap.size_push _ _
  have I3 : Inv X pins σ (upd H2 D (SetTO X.w D [])) s3 := by
    rw [← hS]
    refine I2.laid (t' := s2.toks) (fun b o e => Heap.get?_push_of_some _ e) (Nat.le_of_eq hD) ?_
    rw [← hD]
    exact setTO_new (setS_fresh X.w)
  have f3 : ∀ b ∈ fp, FpOk X pins (upd H2 D (SetTO X.w D [])) b ∧ b < s3.heap.objs.size := fun b hb => by
    obtain ⟨o, e, _⟩ := T.obj _ _ st2 b hb
    have hlt := Heap.lt_size e
    refine ⟨⟨?_, (f2 b hb).2⟩, by rw [sz3]; exact Nat.lt_succ_of_lt hlt⟩
    rw [upd_ne (by rw [← hD]; exact Nat.ne_of_lt hlt)]
    exact (f2 b hb).1
  have st3 : tn 0 s3.heap := T.keep _ _ _ st2 fun b _ o e => kp b o e
  have I4 := block_start I3 ok hN f3
  generalize hcl : cellsFrom (s3.heap.objs.size + 1) scope.names (cloFrom X.env.cells scope.names []) = cl at I4
  have pg := hg s3 (upd H2 D (SetTO X.w D [])) s3.heap.objs.size cl fp
  have pi1 := hi1 s3 (upd H2 D (SetTO X.w D [])) s3.heap.objs.size cl fp
  have pg1 := hg1 s3 (upd H2 D (SetTO X.w D [])) s3.heap.objs.size cl fp
  have pe := he s3 (upd H2 D (SetTO X.w D [])) s3.heap.objs.size cl fp
  show codeAny (model X.prog X.w) X.A (.compStart (SC2 elt tg iter tg1 iter1 scope pos) 0 (.ref it) (.ref D) (compEnvC scope cl s3.heap.objs.size X.env)) (compPost (model X.prog X.w) X.A X.xe none (EP X pins σ Q) (.ref D) s3.heap.objs.size) { s3 with heap := pushCells (s3.heap.push { cls := .type "dict", data := .dict #[] }) scope.names }
  have nfp : ∀ b ∈ fp, (upd H2 D (SetTO X.w D [])) b = none := fun b hb => (f3 b hb).1.1
  generalize hce : compEnvC scope cl s3.heap.objs.size X.env = ce at I4 pg pi1 pg1 pe ⊢
  have cL : ce.locals = s3.heap.objs.size := by
    subst hce
    rfl
  generalize hH3 : upd H2 D (SetTO X.w D []) = H3 at I3 I4 pg pi1 pg1 pe w0 nfp f3
  generalize hs4 : ({ s3 with heap := pushCells (s3.heap.push { cls := .type "dict", data := .dict #[] }) scope.names } : Shared) = s4 at I4 ⊢
  have st4 : tn 0 s4.heap := T.keep _ _ _ st3 fun b _ o e => by
    rw [← hs4]
    exact pushCells_keeps _ _ _ _ (Heap.get?_push_of_some _ e)
  have stat : ∀ {σ' : L2.St} {H' : Hp} {s' : Shared} {π : List (Addr × Obj)} {fpw : List Addr}, Inv (X.blk s3 H3 scope ce fp) [] σ' H' s' → (∀ b ∈ fp, H' b = none) → ∀ b ∈ fp, FpOk (X.blk s3 H3 scope ce fp) [] H' b := fun {σ' H' s' _ _} I' hn b hb =>
    ⟨hn b hb, (I'.ok.exf b hb).1, I'.ok.exfs b hb, .inl hb, fun x c e => (I'.ok.exf b hb).2 x c e, fun p hp => absurd (show p ∈ ([] : List (Addr × Obj)) ++ [] from hp) (by simp)⟩
  have stat0 : ∀ H', (∀ b ∈ fp, H' b = none) → ∀ b ∈ fp, FpOk (X.blk s3 H3 scope ce fp) [] H' b := fun H' hn b hb =>
    ⟨hn b hb, (I4.ok.exf b hb).1, I4.ok.exfs b hb, .inl hb, fun x c e => (I4.ok.exf b hb).2 x c e, fun p hp => absurd (show p ∈ ([] : List (Addr × Obj)) ++ [] from hp) (by simp)⟩
  have loop : codeAny (model X.prog X.w) X.A (.compLoop (SC2 elt tg iter tg1 iter1 scope pos) 0 (.ref it) (.ref D) ce) (compPost (model X.prog X.w) X.A X.xe none (EP X pins σ Q) (.ref D) s3.heap.objs.size) s4 := by
    refine loop_0 (hs1 _) (Mid (X.blk s3 H3 scope ce fp) fp tn [] (wipe σ (own.map (·.2))) W) (fun n s5 hM => ?_) m0 ⟨0, H3, I4, st4, nfp, w0⟩
    refine walk_turn (Y := X.blk s3 H3 scope ce fp) hc rfl T pg stat0 turn hM (fun H5 s6 I6 qq => ?_) (fun σ8 H8 s8 h7 Nx I8 hw8 q8 back => ?_)
    · have I7 : Inv X pins σ H5 s6 := I3.call' (ch := fp) I6.os I6.base I6.hok I6.bare fun b hb => ⟨(f3 b hb).1.2.2.2.1, (f3 b hb).1.2.1, (f3 b hb).1.2.2.2.2.1, (f3 b hb).1.2.2.2.2.2⟩
      have nC : H5 s3.heap.objs.size = none := by
        have z : H5 ce.locals = none := I6.free
        rw [cL] at z
        exact z
      obtain ⟨m, hn, _⟩ := I6.loc
      have hn : s6.heap.Ns ce.locals m := hn
      rw [cL] at hn
      obtain ⟨f0, f1, f2, f3, f4, f5⟩ := I3.fpOk (Nat.le_refl _) nC
      exact ⟨m, hn, fun h'' sb => ⟨.ref D, H5, I7.turned (t' := s6.toks) (fun b o hb e => (sb.2 b hb).trans e) f0 f1 f3 f4 f5, rfl, qq⟩⟩
    · refine thnF (pi1.run _ s8 σ8 H8 _ I8 q8) fun xv1 s9 hx1 => thnF hx1 fun itv1 s10 ⟨it1, fp1, tn1, J1, H4, e1, I10, T1, st10, f10, W1, ⟨k0, w1⟩, turn1⟩ => ?_
      subst e1
      have I10' := I10.weak (σ' := wipe σ8 vs1) (wipe_length ..) fun j v e => (wipe_some e).1
      refine start_1 ?_ (T1.self _ 0 _ _ _ st10 ?_)
      all_goals
        refine loop_1 (Mid (X.blk s3 H3 scope ce fp) fp1 tn1 _ (wipe σ8 vs1) W1) (fun k s11 hM1 => ?_) k0 ⟨0, H4, I10', st10, fun b hb => (f10 b hb).1, w1⟩
        refine walk_turn (Y := X.blk s3 H3 scope ce fp) hc rfl T1 pg1 (fun H' hn b hb => ⟨hn b hb, (f10 b hb).2⟩) turn1 hM1 (fun H5 s6 I6 qq => ?_) (fun σ9 H9 s12 h8 Nx1 I9 hw9 q9 back1 => ?_)
        · refine ⟨⟨_, rfl⟩, back _ _ _ I6 ?_ ?_ qq⟩
          · have z := congrArg List.length hw8
            rw [wipe_length, wipe_length] at z
            rw [wipe_length, wipe_length, z]
          · intro j v e
            rw [← hw8] at e
            obtain ⟨e1, e2⟩ := wipe_some e
            exact wipe_keep e1 fun z => e2 (hv j z)
        · refine thnF (pe.run _ s12 σ9 H9 _ I9 q9) fun z s13 ⟨yv, H10, I11, r10, zz, ks, ey, hD10, hz10, nx⟩ => ?_
          subst ey
          obtain ⟨u, hu⟩ : ∃ u, z = Value.str zz u := r10
          subst hu
          exact addT_ok (X := X.blk s3 H3 scope ce fp) I11 hD10 hz10 fun s14 I14 => back1 _ _ _ I14 (by have z := congrArg List.length hw9; rw [wipe_length, wipe_length] at z; rw [wipe_length, z]) (fun j v e => (wipe_some (by rw [hw9]; exact e)).1) nx
  exact PpSet.codeAny_compStart_set loop (T.self X.A 0 _ _ _ st4 loop)
end
end ZR
set_option Elab.async false
set_option linter.all false
set_option maxRecDepth 100000
set_option maxHeartbeats 4000000
/-! Rules of my own: {e for t in i if c}, e a text. -/
namespace ZR
open PySem PySem.Spec PyProof.Rows L2
/-- {elt for tg in iter if ..}, elt a text; vs: the block's names -/
def tSc1 (w : World) (wi : TI) (g : TG) (tt : TT) (te : TE) (vs : List Nat) : TE := fun σ H Q => wi σ H fun J H1 => ∀ D, H1 D = none → ∃ W : Nat → Nat → Hp → Prop, (∃ m, W 0 m (upd H1 D (SetTO w D []))) ∧ ∀ i m H, W i m H →
  (J.stop i H ∧ Q (.ref D) H) ∨ (J.go i H ∧ ∃ Nx : Hp → Prop, (∀ H', Nx H' → ∃ m', m' < m ∧ W (i + 1) m' H') ∧ ∀ x H', J.yld i H x H' → g x (wipe σ vs) H' fun σ2 H2 => wipe σ2 vs = wipe σ vs ∧
    tt σ2 H2 fun b H3 => if b = true then te σ2 H3 fun y H6 => ∃ (z : Str) (ks : List Str), y = .str z ∧ H6 D = some (SetTO w D ks) ∧ ks.length + 1 < scanBound ∧ Nx (upd H6 D (SetTO w D (ins z ks))) else Nx H3)
section
variable {X : Cx}
theorem pe_sc1 {elt tg iter : Expr} {ifs : List Expr} {scope : Scope} {own : List (Str × Nat)} {pos : Pos} {wi : TI} {g : TG} {tt : TT} {te : TE} (hc : X.calm = true) (hN : X.N.Nodup) (hi : PI X tg iter wi) (ok : BlkOk X.N X.env.scope scope own)
    (hg : ∀ (s : Shared) (H : Hp) (C : Addr) (cl : List (Str × Addr)) (fp : List Addr), PG (X.blk s H scope (compEnvC scope cl C X.env) fp) tg g)
    (hty : ∀ (s : Shared) (H : Hp) (C : Addr) (cl : List (Str × Addr)) (fp : List Addr), PTs (X.blk s H scope (compEnvC scope cl C X.env) fp) ifs tt)
    (he : ∀ (s : Shared) (H : Hp) (C : Addr) (cl : List (Str × Addr)) (fp : List Addr), PE (X.blk s H scope (compEnvC scope cl C X.env) fp) elt te)
    (hs : ∀ x, foldedSetIterable iter X.env x = pure x := by intro _; rfl) :
    PE X (.SetComp elt [⟨tg, iter, ifs, 0⟩] scope pos) (tSc1 X.w wi g tt te (own.map (·.2))) := by
  refine ⟨fun pins s σ H Q I h => ?_⟩
  rw [PpSet.eval_SetComp]
  have hfree : ∀ y ∈ scope.names, y.2 = .free → ∃ c, X.env.cells.lookup y.1 = some c := fun y hy e => (ok.free y hy e).elim (fun k => I.ok.has _ (.inl k)) fun k => I.ok.has _ (.inr k)
  refine wpAny_comprehension_free (use := none) rfl hs (closure_ok hfree) ok.kind (fun y hy e => by rw [ok.uniq y hy, e])
    (thn (hi.run pins s σ H _ I h) fun xv s1 hx => thn hx fun itv s2 ⟨it, fp, tn, J, H2, e, I2, T, st2, f2, q⟩ => ?_)
  subst e
  refine PpSet.newSet_ok (newEnv_comp ?_)
  generalize hD : s2.heap.objs.size = D
  obtain ⟨W, ⟨m0, w0⟩, turn⟩ := q D (I2.hok.fresh (Nat.le_of_eq hD))
  generalize hS : ({ s2 with heap := s2.heap.push { cls := .type "set", dict := none, data := .set #[] 0 (.fresh 0 0 (!X.w.params.followText "set-order")) } } : Shared) = s3
  have kp : ∀ b o, s2.heap.get? b = some o → s3.heap.get? b = some o := fun b o e => by
    rw [← hS]
    exact Heap.get?_push_of_some _ e
  have sz3 : s3.heap.objs.size = s2.heap.objs.size + 1 := by
    rw [← hS]
    exact Heap.size_push _ _
  have I3 : Inv X pins σ (upd H2 D (SetTO X.w D [])) s3 := by
    rw [← hS]
    refine I2.laid (t' := s2.toks) (fun b o e => Heap.get?_push_of_some _ e) (Nat.le_of_eq hD) ?_
    rw [← hD]
    exact setTO_new (setS_fresh X.w)
  have f3 : ∀ b ∈ fp, FpOk X pins (upd H2 D (SetTO X.w D [])) b ∧ b < s3.heap.objs.size := fun b hb => by
    obtain ⟨o, e, _⟩ := T.obj _ _ st2 b hb
    have hlt := Heap.lt_size e
    refine ⟨⟨?_, (f2 b hb).2⟩, by rw [sz3]; exact Nat.lt_succ_of_lt hlt⟩
    rw [upd_ne (by rw [← hD]; exact Nat.ne_of_lt hlt)]
    exact (f2 b hb).1
  have st3 : tn 0 s3.heap := T.keep _ _ _ st2 fun b _ o e => kp b o e
  have I4 := block_start I3 ok hN f3
  generalize hcl : cellsFrom (s3.heap.objs.size + 1) scope.names (cloFrom X.env.cells scope.names []) = cl at I4
  have pg := hg s3 (upd H2 D (SetTO X.w D [])) s3.heap.objs.size cl fp
  have pt := hty s3 (upd H2 D (SetTO X.w D [])) s3.heap.objs.size cl fp
  have pe := he s3 (upd H2 D (SetTO X.w D [])) s3.heap.objs.size cl fp
  show codeAny (model X.prog X.w) X.A (.compStart (.SetComp elt [⟨tg, iter, ifs, 0⟩] scope pos) 0 (.ref it) (.ref D) (compEnvC scope cl s3.heap.objs.size X.env)) (compPost (model X.prog X.w) X.A X.xe none (EP X pins σ Q) (.ref D) s3.heap.objs.size) { s3 with heap := pushCells (s3.heap.push { cls := .type "dict", data := .dict #[] }) scope.names }
  have nfp : ∀ b ∈ fp, (upd H2 D (SetTO X.w D [])) b = none := fun b hb => (f3 b hb).1.1
  generalize hce : compEnvC scope cl s3.heap.objs.size X.env = ce at I4 pg pt pe ⊢
  have cL : ce.locals = s3.heap.objs.size := by
    subst hce
    rfl
  generalize hH3 : upd H2 D (SetTO X.w D []) = H3 at I3 I4 pg pt pe w0 nfp f3
  generalize hs4 : ({ s3 with heap := pushCells (s3.heap.push { cls := .type "dict", data := .dict #[] }) scope.names } : Shared) = s4 at I4 ⊢
  have st4 : tn 0 s4.heap := T.keep _ _ _ st3 fun b _ o e => by
    rw [← hs4]
    exact pushCells_keeps _ _ _ _ (Heap.get?_push_of_some _ e)
  have stat0 : ∀ H', (∀ b ∈ fp, H' b = none) → ∀ b ∈ fp, FpOk (X.blk s3 H3 scope ce fp) [] H' b := fun H' hn b hb =>
    ⟨hn b hb, (I4.ok.exf b hb).1, I4.ok.exfs b hb, .inl hb, fun x c e => (I4.ok.exf b hb).2 x c e, fun p hp => absurd (show p ∈ ([] : List (Addr × Obj)) ++ [] from hp) (by simp)⟩
  have loop : codeAny (model X.prog X.w) X.A (.compLoop (.SetComp elt [⟨tg, iter, ifs, 0⟩] scope pos) 0 (.ref it) (.ref D) ce) (compPost (model X.prog X.w) X.A X.xe none (EP X pins σ Q) (.ref D) s3.heap.objs.size) s4 := by
    refine PpSet.compLoopS_any (Mid (X.blk s3 H3 scope ce fp) fp tn [] (wipe σ (own.map (·.2))) W) (fun n s5 hM => ?_) m0 ⟨0, H3, I4, st4, nfp, w0⟩
    refine walk_turn (Y := X.blk s3 H3 scope ce fp) hc rfl T pg stat0 turn hM (fun H5 s6 I6 qq => ?_) (fun σ8 H8 s8 h7 Nx I8 hw8 q8 back => ?_)
    · have I7 : Inv X pins σ H5 s6 := I3.call' (ch := fp) I6.os I6.base I6.hok I6.bare fun b hb => ⟨(f3 b hb).1.2.2.2.1, (f3 b hb).1.2.1, (f3 b hb).1.2.2.2.2.1, (f3 b hb).1.2.2.2.2.2⟩
      have nC : H5 s3.heap.objs.size = none := by
        have z : H5 ce.locals = none := I6.free
        rw [cL] at z
        exact z
      obtain ⟨m, hn, _⟩ := I6.loc
      have hn : s6.heap.Ns ce.locals m := hn
      rw [cL] at hn
      obtain ⟨f0, f1, f2, f3, f4, f5⟩ := I3.fpOk (Nat.le_refl _) nC
      exact ⟨m, hn, fun h'' sb => ⟨.ref D, H5, I7.turned (t' := s6.toks) (fun b o hb e => (sb.2 b hb).trans e) f0 f1 f3 f4 f5, rfl, qq⟩⟩
    · have hlen : (wipe σ (own.map (·.2))).length = σ8.length := by
        rw [← hw8, wipe_length]
      have hkeep : ∀ (j : Nat) v, (wipe σ (own.map (·.2)))[j]? = some (some v) → σ8[j]? = some (some v) := fun j v e => by
        rw [← hw8] at e
        exact (wipe_some e).1
      refine thnF (pt.run _ s8 σ8 H8 _ I8 q8) fun b s9 ⟨H9, I9, q9⟩ => ?_
      cases b with
      | false => exact back σ8 H9 s9 I9 hlen hkeep q9
      | true =>
        refine thnF (pe.run _ s9 σ8 H9 _ I9 q9) fun z s13 ⟨yv, H10, I11, r10, zz, ks, ey, hD10, hz10, nx⟩ => ?_
        subst ey
        obtain ⟨u, hu⟩ : ∃ u, z = Value.str zz u := r10
        subst hu
        exact addT_ok (X := X.blk s3 H3 scope ce fp) I11 hD10 hz10 fun s14 I14 => back _ _ _ I14 hlen hkeep nx
  exact PpSet.codeAny_compStart_set loop (T.self X.A 0 _ _ _ st4 loop)
end
/-! words that are not opened by themselves -/
@[irreducible] def tSc1S (w : World) (wi : TI) (g : TG) (tt : TT) (te : TE) (vs : List Nat) : TE := tSc1 w wi g tt te vs
theorem sc1S : @tSc1S = @tSc1 := by
  funext w wi g tt te vs
  unfold tSc1S
  rfl
@[irreducible] def tDcS (wi : TI) (g : TG) (tt : TT) (tk tv : TE) (vs : List Nat) : TE := tDc wi g tt tk tv vs
theorem dcS : @tDcS = @tDc := by
  funext wi g tt tk tv vs
  unfold tDcS
  rfl
section
variable {X : Cx} {w : World} {wi : TI} {g : TG} {tt : TT} {te tk tv : TE} {vs : List Nat} {σ : L2.St} {H : Hp} {Q : VK}
theorem pe_sealed1 {e : Expr} (h : PE X e (tSc1 X.w wi g tt te vs)) : PE X e (tSc1S X.w wi g tt te vs) := by
  rw [sc1S]
  exact h
theorem pe_sealedD {e : Expr} (h : PE X e (tDc wi g tt tk tv vs)) : PE X e (tDcS wi g tt tk tv vs) := by
  rw [dcS]
  exact h
theorem sc1_into (h : wi σ H fun J H1 => tSc1S w (fun _ _ R => R J H1) g tt te vs σ H1 Q) : tSc1S w wi g tt te vs σ H Q := by
  rw [sc1S] at *
  exact h
theorem dc_into (h : wi σ H fun J H1 => tDcS (fun _ _ R => R J H1) g tt tk tv vs σ H1 Q) : tDcS wi g tt tk tv vs σ H Q := by
  rw [dcS] at *
  exact h
end
end ZR
set_option Elab.async false
set_option linter.all false
set_option maxRecDepth 100000
set_option maxHeartbeats 4000000
/-! Rules of my own: d.update(e) of two dicts; t.index(n), t a tuple of whole numbers. -/
namespace ZR
open PySem PySem.Spec PyProof.Rows L2
def rDUpd : V → List V → Hp → VK → Prop := fun x vs H Q => ∃ (a b : Addr) (kvs more : List (Key × V)), x = .ref a ∧ vs = [.ref b] ∧ a ≠ b ∧ H a = some (.dK kvs) ∧ H b = some (.dK more) ∧ kvs.length + more.length ≤ sizeLine ∧ Q .non (upd H a (.dK (mergeK kvs more)))
theorem mtd_update {X : Cx} : MtR X "dict.update" rDUpd := by
  intro pins s σ H x vs v us Q I rx rv h
  obtain ⟨a, b, kvs, more, ex, ev, hne, ea, eb, hsz, q⟩ := h
  subst ex
  subst ev
  cases rx
  obtain ⟨u, eu, ru⟩ := rv.one
  subst eu
  cases ru
  obtain ⟨za, da, va, ra, ka⟩ := dk_of I.hok ea
  obtain ⟨zb, db, vb, rb, kb⟩ := dk_of I.hok eb
  refine call_meetsIn PySem.F.slot_dict_update ka.typeIs PySem.F.entry_dict_update (PySem.F.args_dict_update_2 _ _) (meets_dict_update (mixKind X.prog X.w) a b hne db) ⟨va, vb, ka, kb, by rw [← ra.length, ← rb.length]; exact hsz, fun h' k1 _ sb => ?_⟩
  have I2 := d_write (t' := s.toks) (ob := .dK (mergeK kvs more)) I (by rw [ea]; exact True.intro) sb ⟨_, k1.choose_spec.choose_spec.choose_spec.1⟩ (dk_new (Nat.le_trans (length_mergeK more kvs) hsz) da (KV.merge rb ra) k1)
  exact ⟨.non, _, I2, rfl, q⟩
/-- fresh keys are put behind -/
theorem merge_fresh : ∀ (more kvs : List (Key × V)), ((kvs ++ more).map (·.1)).Nodup → mergeK kvs more = kvs ++ more
  | [], kvs, _ => (List.append_nil kvs).symm
  | p :: r, kvs, h => by
    have h1 : p.1 ∉ kvs.map (·.1) := fun m => by
      rw [List.map_append, List.map_cons] at h
      exact (List.nodup_append.mp h).2.2 _ m _ List.mem_cons_self rfl
    have e : putK kvs p.1 p.2 = kvs ++ [p] := by
      unfold putK
      have : (kvs.any fun x => decide (x.1 = p.1)) = false := by
        rw [Bool.eq_false_iff]
        intro z
        obtain ⟨q, hq, hd⟩ := List.any_eq_true.mp z
        exact h1 (by rw [← of_decide_eq_true hd]; exact List.mem_map_of_mem hq)
      rw [this]
      rfl
    show mergeK (putK kvs p.1 p.2) r = _
    rw [e, merge_fresh r (kvs ++ [p]) (by rw [List.append_assoc]; exact h), List.append_assoc]
    rfl
theorem flat_intsL (ns : List Int) : (ns.map V.int).all flatV = true := by
  induction ns with
  | nil => rfl
  | cons _ _ ih => exact ih
/-- t.index(n), the first place, of whole numbers -/
def rTIdx (K : PySem.W.Frag) : V → List V → Hp → VK → Prop := fun x vs H Q => ∃ (a : Addr) (ns : List Int) (n : Int) (j : Nat), x = .ref a ∧ vs = [.int n] ∧ SqT K H a (ns.map V.int) ∧ ns[j]? = some n ∧ (∀ m, m < j → ns[m]? ≠ some n) ∧ Q (.int (j : Nat)) H
theorem mt_tidx {X : Cx} : MtR X "tuple.index" (rTIdx X.K) := by
  intro pins s σ H x vs v us Q I rx rv h
  obtain ⟨a, ns, n, j, ex, ev, hS, hj, hf, q⟩ := h
  subst ex
  subst ev
  cases rx
  obtain ⟨u, eu, tk, ru⟩ := rv.one
  subst eu
  subst ru
  obtain ⟨its, rr, ⟨⟨oc, od, odt, osl⟩, ho, hc, nn, hd⟩, _⟩ := I.tuple hS
  dsimp only at hc hd
  subst hc
  subst hd
  have hlen : ns.length = its.length := by
    have := rr.length
    rwa [List.length_map] at this
  have item : ∀ (m : Nat) (hm : m < its.toArray.size), ∃ t', ∃ (hm2 : m < ns.length), its.toArray[m] = Value.int ns[m] t' := fun m hm => by
    have hm2 : m < ns.length := by
      rw [hlen]
      rwa [List.size_toArray] at hm
    obtain ⟨w, hw, t', ew⟩ := rr.get (i := m) (x := .int ns[m]) (by rw [List.getElem?_map, List.getElem?_eq_getElem hm2]; rfl)
    refine ⟨t', hm2, ?_⟩
    rw [List.getElem_toArray]
    rw [← ew]
    exact (List.getElem?_eq_some_iff.mp hw).2
  have hjn : j < ns.length := (List.getElem?_eq_some_iff.mp hj).1
  have hja : j < its.toArray.size := by
    rw [List.size_toArray, ← hlen]
    exact hjn
  refine call_meets PySem.F.slot_tuple_index ⟨_, ho, rfl⟩ PySem.F.entry_tuple_index (PySem.F.args_tuple_index_2 _ _) (TI.tuple_indexAt a its.toArray nn od osl (.int n tk) (eqU (.int n)) j hja ?_ ?_) ⟨ho, fun w hw => mem_eqAt (x := .int n) ⟨tk, rfl⟩ rfl rr (flat_intsL ns) w (by simpa using hw), ⟨.int (j : Nat), H, I.tok _, ⟨_, rfl⟩, q⟩⟩
  · obtain ⟨t', hm2, e⟩ := item j hja
    have e2 : ns[j] = n := (List.getElem?_eq_some_iff.mp hj).2
    rw [e, e2]
    show eqV (.int n) (.int n) = true
    exact beq_self_eq_true n
  · intro m hm hmj
    obtain ⟨t', hm2, e⟩ := item m hm
    rw [e]
    show (ns[m] == n) = false
    rw [beq_eq_false_iff_ne]
    intro z
    exact hf m hmj (by rw [List.getElem?_eq_getElem hm2, z])
end ZR
set_option Elab.async false
set_option linter.all false
set_option maxRecDepth 100000
set_option maxHeartbeats 4000000
/-! Comprehensions whose words are not opened by themselves. -/
namespace ZR
open PySem PySem.Spec PyProof.Rows L2
@[irreducible] def tLcS (wi : TI) (g : TG) (tt : TT) (te : TE) (vs : List Nat) : TE := tLc wi g tt te vs
theorem lcS : @tLcS = @tLc := by
  funext wi g tt te vs
  unfold tLcS
  rfl
@[irreducible] def tSc2S (w : World) (wi : TI) (g : TG) (wi1 : TI) (g1 : TG) (te : TE) (vs vs1 : List Nat) : TE := tSc2 w wi g wi1 g1 te vs vs1
theorem sc2S : @tSc2S = @tSc2 := by
  funext w wi g wi1 g1 te vs vs1
  unfold tSc2S
  rfl
section
variable {X : Cx}
theorem pe_lcS {elt tg iter : Expr} {ifs : List Expr} {scope : Scope} {own : List (Str × Nat)} {pos : Pos} {wi : TI} {g : TG} {tt : TT} {te : TE} (hc : X.calm = true) (hN : X.N.Nodup) (hi : PI X tg iter wi) (ok : BlkOk X.N X.env.scope scope own)
    (hg : ∀ (s : Shared) (H : Hp) (C : Addr) (cl : List (Str × Addr)) (fp : List Addr), PG (X.blk s H scope (compEnvC scope cl C X.env) fp) tg g) (ht : ∀ (s : Shared) (H : Hp) (C : Addr) (cl : List (Str × Addr)) (fp : List Addr), PTs (X.blk s H scope (compEnvC scope cl C X.env) fp) ifs tt)
    (he : ∀ (s : Shared) (H : Hp) (C : Addr) (cl : List (Str × Addr)) (fp : List Addr), PE (X.blk s H scope (compEnvC scope cl C X.env) fp) elt te) (hs : ∀ x, foldedSetIterable iter X.env x = pure x := by intro _; rfl) :
    PE X (.ListComp elt [⟨tg, iter, ifs, 0⟩] scope pos) (tLcS wi g tt te (own.map (·.2))) := by
  rw [lcS]
  exact pe_lc hc hN hi ok hg ht he hs
theorem ps_setLcS {i : Nat} {y : Str} {py : Pos} {elt tg iter : Expr} {ifs : List Expr} {scope : Scope} {own : List (Str × Nat)} {pos spos : Pos} {wi : TI} {g : TG} {tt : TT} {te : TE} (hc : X.calm = true) (hN : X.N.Nodup) (hy : X.N[i]? = some y) (hyl : X.env.scope.names.lookup y = some .local)
    (hsw : swapsWith (.ListComp elt [⟨tg, iter, ifs, 0⟩] scope pos) (some (.Name y py)) spos.line X.env = pure true) (hi : PI X tg iter wi) (ok : BlkOk X.N X.env.scope scope own)
    (hg : ∀ (s : Shared) (H : Hp) (C : Addr) (cl : List (Str × Addr)) (fp : List Addr), PG (X.blk s H scope (compEnvC scope cl C X.env) fp) tg g) (ht : ∀ (s : Shared) (H : Hp) (C : Addr) (cl : List (Str × Addr)) (fp : List Addr), PTs (X.blk s H scope (compEnvC scope cl C X.env) fp) ifs tt)
    (he : ∀ (s : Shared) (H : Hp) (C : Addr) (cl : List (Str × Addr)) (fp : List Addr), PE (X.blk s H scope (compEnvC scope cl C X.env) fp) elt te) (hs : ∀ x, foldedSetIterable iter X.env x = pure x := by intro _; rfl) :
    PS X (.Assign [.Name y py] (.ListComp elt [⟨tg, iter, ifs, 0⟩] scope pos) spos) (tAsg (tLcS wi g tt te (own.map (·.2))) (gName i)) := by
  rw [lcS]
  exact ps_setLc hc hN hy hyl hsw hi ok hg ht he hs
theorem pe_sc2S {elt tg iter tg1 iter1 : Expr} {scope : Scope} {own : List (Str × Nat)} {vs1 : List Nat} {pos : Pos} {wi wi1 : TI} {g g1 : TG} {te : TE} (hc : X.calm = true) (hN : X.N.Nodup) (hi : PI X tg iter wi) (ok : BlkOk X.N X.env.scope scope own) (hv : ∀ i ∈ vs1, i ∈ own.map (·.2))
    (hg : ∀ (s : Shared) (H : Hp) (C : Addr) (cl : List (Str × Addr)) (fp : List Addr), PG (X.blk s H scope (compEnvC scope cl C X.env) fp) tg g)
    (hi1 : ∀ (s : Shared) (H : Hp) (C : Addr) (cl : List (Str × Addr)) (fp : List Addr), PI (X.blk s H scope (compEnvC scope cl C X.env) fp) tg1 iter1 wi1)
    (hg1 : ∀ (s : Shared) (H : Hp) (C : Addr) (cl : List (Str × Addr)) (fp : List Addr), PG (X.blk s H scope (compEnvC scope cl C X.env) fp) tg1 g1)
    (he : ∀ (s : Shared) (H : Hp) (C : Addr) (cl : List (Str × Addr)) (fp : List Addr), PE (X.blk s H scope (compEnvC scope cl C X.env) fp) elt te)
    (hs : ∀ x, foldedSetIterable iter X.env x = pure x := by intro _; rfl) (hs1 : ∀ env x, foldedSetIterable iter1 env x = pure x := by intro _ _; rfl) :
    PE X (.SetComp elt [⟨tg, iter, [], 0⟩, ⟨tg1, iter1, [], 0⟩] scope pos) (tSc2S X.w wi g wi1 g1 te (own.map (·.2)) vs1) := by
  rw [sc2S]
  exact pe_sc2 hc hN hi ok hv hg hi1 hg1 he hs hs1
/-! cuts -/
def tCutE (te : TE) : TE := fun σ H Q => ∃ M : VK, te σ H M ∧ ∀ v H', M v H' → Q v H'
theorem pe_cut {e : Expr} {te : TE} (h : PE X e te) : PE X e (tCutE te) := ⟨fun pins s σ H Q I ⟨M, h1, h2⟩ => thn (h.run pins s σ H M I h1) fun u s' ⟨v, H', I', r, q⟩ => ⟨v, H', I', r, h2 v H' q⟩⟩
def tCutT (tt : TT) : TT := fun σ H Q => ∃ M : Bool → Hp → Prop, tt σ H M ∧ ∀ b H', M b H' → Q b H'
theorem pt_cut {e : Expr} {tt : TT} (h : PT X e tt) : PT X e (tCutT tt) := ⟨fun pins s σ H Q I ⟨M, h1, h2⟩ => thn (h.run pins s σ H M I h1) fun b s' ⟨H', I', q⟩ => ⟨H', I', h2 b H' q⟩⟩
def tCutS (t : TS) : TS := fun D σ H => ∃ Mid : L2.St → Hp → Prop, t { D with nx := Mid } σ H ∧ ∀ σ' H', Mid σ' H' → D.nx σ' H'
theorem ps_cut {st : Stmt} {t : TS} (h : PS X st t) : PS X st (tCutS t) := by
  refine ⟨fun pins s σ H D I ⟨Mid, h1, h2⟩ => thn (h.run pins s σ H { D with nx := Mid } I h1) fun f s1 q => ?_⟩
  cases f with
  | next =>
    obtain ⟨σ', H', I', q⟩ := q
    exact ⟨σ', H', I', h2 σ' H' q⟩
  | ret v => exact q
  | brk => exact q
  | cont => exact q
end
end ZR
set_option Elab.async false
set_option linter.all false
set_option maxRecDepth 100000
set_option maxHeartbeats 4000000
/-! Programs: rows and blocks as own data, how they stand in the heap, their numbering. -/
namespace PM
open PySem PySem.Spec PyProof.Rows L2 ZX
inductive Rw where
  | note (x o : Str) (ps : List Str)
  | copy (x y : Str)
  | give (x : Str) (i : Int)
  | ask (x : Str)
  | prt (x : Str)
  | either (a b : List Rw)
  | again (a : List Rw)
mutual
def dR : Rw → PyData
  | .note x o ps => .tuple [.str "note", .str x, .str o, .tuple (ps.map .str)]
  | .copy x y => .tuple [.str "copy", .str x, .str y]
  | .give x i => .tuple [.str "give", .str x, .int i]
  | .ask x => .tuple [.str "ask", .str x]
  | .prt x => .tuple [.str "print", .str x]
  | .either a b => .tuple [.str "either", .tuple (dB a), .tuple (dB b)]
  | .again a => .tuple [.str "again", .tuple (dB a)]
def dB : List Rw → List PyData
  | [] => []
  | r :: b => dR r :: dB b
end
mutual
/-- a row and those within -/
def rowsR : Rw → List Rw
  | .either a b => .either a b :: (rowsB a ++ rowsB b)
  | .again a => .again a :: rowsB a
  | .note x o ps => [.note x o ps]
  | .copy x y => [.copy x y]
  | .give x i => [.give x i]
  | .ask x => [.ask x]
  | .prt x => [.prt x]
def rowsB : List Rw → List Rw
  | [] => []
  | r :: b => rowsR r ++ rowsB b
end
/-- the blocks within a row -/
def inner : Rw → List (List Rw)
  | .either a b => [a, b]
  | .again a => [a]
  | _ => []
def namesR : Rw → List Str
  | .note x _ ps => x :: ps
  | .copy x y => [x, y]
  | .give x _ => [x]
  | .ask x => [x]
  | .prt x => [x]
  | _ => []
mutual
/-- the next places of a row's rows -/
def leadsR : Rw → Nat → Nat → List (List Nat)
  | .either a b, p, e => [if a.isEmpty then e else p + 1, if b.isEmpty then e else p + 1 + (rowsB a).length] :: (leadsB a (p + 1) e ++ leadsB b (p + 1 + (rowsB a).length) e)
  | .again a, p, e => [if a.isEmpty then p else p + 1, e] :: leadsB a (p + 1) p
  | .note _ _ _, _, e => [[e]]
  | .copy _ _, _, e => [[e]]
  | .give _ _, _, e => [[e]]
  | .ask _, _, e => [[e]]
  | .prt _, _, e => [[e]]
def leadsB : List Rw → Nat → Nat → List (List Nat)
  | [], _, _ => []
  | r :: b, p, e => leadsR r p (if b.isEmpty then e else p + (rowsR r).length) ++ leadsB b (p + (rowsR r).length) e
end
mutual
/-- how deep blocks stand within -/
def depR : Rw → Nat
  | .either a b => max (depB a) (depB b) + 1
  | .again a => depB a + 1
  | .note _ _ _ => 0
  | .copy _ _ => 0
  | .give _ _ => 0
  | .ask _ => 0
  | .prt _ => 0
def depB : List Rw → Nat
  | [] => 0
  | r :: b => max (depR r) (depB b)
end
theorem rowsR_eq (r : Rw) : rowsR r = r :: (inner r).flatMap rowsB := by
  cases r <;> simp [rowsR, inner]
theorem dB_eq : ∀ b : List Rw, dB b = b.map dR
  | [] => rfl
  | r :: b => by rw [dB, dB_eq b]; rfl
theorem rowsB_eq : ∀ b : List Rw, rowsB b = b.flatMap rowsR
  | [] => rfl
  | r :: b => by rw [rowsB, rowsB_eq b]; rfl
theorem rowsR_pos (r : Rw) : 0 < (rowsR r).length := by
  rw [rowsR_eq]
  exact Nat.succ_pos _
mutual
theorem leadsR_len : ∀ (r : Rw) (p e : Nat), (leadsR r p e).length = (rowsR r).length
  | .either a b, p, e => by simp [leadsR, rowsR, leadsB_len a, leadsB_len b]
  | .again a, p, e => by simp [leadsR, rowsR, leadsB_len a]
  | .note _ _ _, _, _ => rfl
  | .copy _ _, _, _ => rfl
  | .give _ _, _, _ => rfl
  | .ask _, _, _ => rfl
  | .prt _, _, _ => rfl
theorem leadsB_len : ∀ (b : List Rw) (p e : Nat), (leadsB b p e).length = (rowsB b).length
  | [], _, _ => rfl
  | r :: b, p, e => by simp [leadsB, rowsB, leadsR_len r, leadsB_len b]
end
/-! ### in the heap -/
mutual
/-- a thing of tuples, texts, numbers, flags -/
inductive Tv (K : PySem.W.Frag) (H : Hp) : V → PyData → Prop
  | non : Tv K H .non .none
  | bl (b : Bool) : Tv K H (.bl b) (.bool b)
  | int (i : Int) : Tv K H (.int i) (.int i)
  | str (x : Str) : Tv K H (.str x) (.str x)
  | tup {a : Addr} {xs : List V} {ds : List PyData} : SqT K H a xs → Tvs K H xs ds → Tv K H (.ref a) (.tuple ds)
inductive Tvs (K : PySem.W.Frag) (H : Hp) : List V → List PyData → Prop
  | nil : Tvs K H [] []
  | cons {v : V} {vs : List V} {d : PyData} {ds : List PyData} : Tv K H v d → Tvs K H vs ds → Tvs K H (v :: vs) (d :: ds)
end
/-- all tuples stand -/
def Pt (H H' : Hp) : Prop := ∀ b xs, Rd H b (.tup xs) → Rd H' b (.tup xs)
theorem Pt.refl (H : Hp) : Pt H H := fun _ _ h => h
theorem Pt.trans {H H1 H2 : Hp} (a : Pt H H1) (b : Pt H1 H2) : Pt H H2 := fun c o h => b c o (a c o h)
theorem _root_.L2.Same.pt {H H' : Hp} (s : Same H H') : Pt H H' := fun b xs h => h.elim (fun h => .inl (s _ _ h)) fun ⟨o, h⟩ => .inr ⟨o, s _ _ h⟩
/-- a list changes -/
theorem Pt.lst {H : Hp} {a : Addr} {xs : List V} {o : HO} (h : H a = some (.lst xs)) : Pt H (upd H a o) := fun b ys hb => by
  have ne : b ≠ a := fun e => by
    subst e
    rcases hb with hb | ⟨o, hb⟩ <;> rw [h] at hb <;> cases hb
  exact hb.elim (fun h => .inl (by rw [upd_ne ne]; exact h)) fun ⟨o, h⟩ => .inr ⟨o, by rw [upd_ne ne]; exact h⟩
theorem Pt.new {H : Hp} {a : Addr} {o : HO} (h : H a = none) : Pt H (upd H a o) := Same.pt fun b u e => by
  rw [upd_ne (ne_of_none e h)]
  exact e
theorem Kp.pt {p : Addr} {H H' : Hp} {xs : List V} (h : H p = some (.lst xs)) (k : Kp p H H') : Pt H H' := fun b ys hb => by
  have ne : b ≠ p := fun e => by
    subst e
    rcases hb with hb | ⟨o, hb⟩ <;> rw [h] at hb <;> cases hb
  exact hb.elim (fun h => .inl (k _ _ ne h)) fun ⟨o, h⟩ => .inr ⟨o, k _ _ ne h⟩
section
variable {K : PySem.W.Frag} {H H' : Hp}
theorem Pt.sq {a : Addr} {xs : List V} (p : Pt H H') (h : SqT K H a xs) : SqT K H' a xs := h.imp (p _ _) id
mutual
theorem Tv.pt (p : Pt H H') : ∀ {v : V} {d : PyData}, Tv K H v d → Tv K H' v d
  | _, _, .non => .non
  | _, _, .bl b => .bl b
  | _, _, .int i => .int i
  | _, _, .str x => .str x
  | _, _, .tup h t => .tup (p.sq h) (Tvs.pt p t)
theorem Tvs.pt (p : Pt H H') : ∀ {vs : List V} {ds : List PyData}, Tvs K H vs ds → Tvs K H' vs ds
  | _, _, .nil => .nil
  | _, _, .cons h t => .cons (Tv.pt p h) (Tvs.pt p t)
end
mutual
theorem Tv.dp : ∀ {v : V} {d : PyData}, Tv K H v d → Dp K H v d
  | _, _, .non => .non
  | _, _, .bl b => .bl b
  | _, _, .int i => .int i
  | _, _, .str x => .str x
  | _, _, .tup h t => .tup h (Tvs.dp t)
theorem Tvs.dp : ∀ {vs : List V} {ds : List PyData}, Tvs K H vs ds → DpAll K H vs ds
  | _, _, .nil => .nil
  | _, _, .cons h t => .cons (Tv.dp h) (Tvs.dp t)
end
theorem Tvs.len : ∀ {vs : List V} {ds : List PyData}, Tvs K H vs ds → vs.length = ds.length
  | _, _, .nil => rfl
  | _, _, .cons _ t => congrArg Nat.succ (Tvs.len t)
theorem Tvs.app : ∀ {vs : List V} {ds : List PyData} {us : List V} {es : List PyData}, Tvs K H vs ds → Tvs K H us es → Tvs K H (vs ++ us) (ds ++ es)
  | _, _, _, _, .nil, t => t
  | _, _, _, _, .cons h t, u => .cons h (Tvs.app t u)
theorem Tvs.get : ∀ {vs : List V} {ds : List PyData} {i : Nat} {d : PyData}, Tvs K H vs ds → ds[i]? = some d → ∃ v, vs[i]? = some v ∧ Tv K H v d
  | _, _, i, _, .nil, e => by simp at e
  | _, _, 0, _, .cons h t, e => by
    cases e
    exact ⟨_, rfl, h⟩
  | _, _, i + 1, _, .cons h t, e => Tvs.get (i := i) t e
theorem Tvs.strs : ∀ {vs : List V} {ps : List Str}, Tvs K H vs (ps.map .str) → vs = ps.map V.str
  | _, [], .nil => rfl
  | _, _ :: _, .cons h t => by
    cases h
    rw [List.map_cons, Tvs.strs t]
theorem Tvs.ofStrs : ∀ {ps : List Str}, Tvs K H (ps.map V.str) (ps.map .str)
  | [] => .nil
  | _ :: _ => .cons (.str _) Tvs.ofStrs
end
abbrev RV (K : PySem.W.Frag) (H : Hp) (v : V) (r : Rw) : Prop := Tv K H v (dR r)
abbrev BV (K : PySem.W.Frag) (H : Hp) (v : V) (b : List Rw) : Prop := Tv K H v (.tuple (dB b))
abbrev RVs (K : PySem.W.Frag) (H : Hp) (vs : List V) (b : List Rw) : Prop := Tvs K H vs (dB b)
end PM
set_option Elab.async false
set_option linter.all false
set_option maxRecDepth 100000
set_option maxHeartbeats 4000000
/-! List comprehensions over things that stand, by what each item gives. -/
namespace PM
open PySem PySem.Spec PyProof.Rows L2 ZX ZR
theorem ifD {p A B : Prop} [Decidable p] (h : p) (a : A) : if decide p = true then A else B := by
  rw [decide_eq_true h]
  exact a
theorem ifDF {p A B : Prop} [Decidable p] (h : ¬ p) (b : B) : if decide p = true then A else B := by
  rw [decide_eq_false h]
  exact b
theorem ifB {c : Bool} {A B : Prop} (h : c = true) (a : A) : if c = true then A else B := by
  rw [h]
  exact a
theorem ifBF {c : Bool} {A B : Prop} (h : c = false) (b : B) : if c = true then A else B := by
  rw [h]
  exact b
/-- all that was tracked, but what stands at p, stands -/
def Kq (p : Option Addr) (H H' : Hp) : Prop := ∀ b o, some b ≠ p → H b = some o → H' b = some o
section
variable {p : Option Addr} {H H1 H2 : Hp}
theorem Kq.refl : Kq p H H := fun _ _ _ h => h
theorem Kq.trans (a : Kq p H H1) (b : Kq p H1 H2) : Kq p H H2 := fun c o n h => b c o n (a c o n h)
theorem Kq.new {a : Addr} {o : HO} (k : Kq p H H1) (h : H a = none) : Kq p H (upd H1 a o) := fun b u n e => by
  rw [upd_ne (ne_of_none e h)]
  exact k b u n e
theorem _root_.L2.Same.kq (s : Same H H1) : Kq p H H1 := fun b o _ h => s b o h
theorem Kq.same (k : Kq none H H1) : Same H H1 := fun b o h => k b o (fun z => nomatch z) h
theorem Kp.kq {p : Addr} (k : Kp p H H1) : Kq (some p) H H1 := fun b o n h => k b o (fun z => n (by rw [z])) h
theorem Kq.kp {p : Addr} (k : Kq (some p) H H1) : Kp p H H1 := fun b o n h => k b o (fun z => n (by injection z)) h
end
/-- J walks over zs as long as St holds -/
structure IterOf (J : It) (zs : List V) (St : Hp → Prop) : Prop where
  stop : ∀ H, St H → J.stop zs.length H
  go : ∀ i H, St H → i < zs.length → J.go i H
  yld : ∀ i H v H', St H → i < zs.length → J.yld i H v H' → H' = H ∧ zs[i]? = some v
theorem it_list {K : PySem.W.Frag} {a : Addr} {xs : List V} : IterOf (Itl K a) xs fun H => SqL K H a xs :=
  ⟨fun H h => ⟨xs, h, Nat.le_refl _⟩, fun i H h l => ⟨xs, xs[i], h, List.getElem?_eq_getElem l⟩, fun i H v H' h _ y => ⟨y.1, y.2 xs h⟩⟩
theorem it_tup {K : PySem.W.Frag} {a : Addr} {xs : List V} : IterOf (Itt K a) xs fun H => SqT K H a xs :=
  ⟨fun H h => ⟨xs, h, Nat.le_refl _⟩, fun i H h l => ⟨xs, xs[i], h, List.getElem?_eq_getElem l⟩, fun i H v H' h _ y => ⟨y.1, y.2 xs h⟩⟩
/-- the letters of a text -/
def letters (x : Str) : List V := x.cps.toList.map fun c => .str ⟨#[c]⟩
theorem letters_len (x : Str) : (letters x).length = x.cps.size := by rw [letters, List.length_map, Array.length_toList]
theorem it_str {x : Str} : IterOf (Its x) (letters x) fun _ => True :=
  ⟨fun H _ => Nat.le_of_eq (letters_len x).symm, fun i H _ l => by
    show i < x.cps.size
    rw [← letters_len]
    exact l, fun i H v H' _ _ y => by
    obtain ⟨e, c, hc, rfl⟩ := y
    refine ⟨e, ?_⟩
    rw [letters, List.getElem?_map, Array.getElem?_toList, hc]
    rfl⟩
theorem it_range {lo : Int} {n : Nat} : IterOf (Itr lo n) ((List.range n).map fun i => V.int (lo + (i : Nat))) fun _ => True := by
  refine ⟨fun H _ => ?_, fun i H _ l => ?_, fun i H v H' _ l y => ?_⟩
  · show n ≤ _
    simp
  · have l' := l
    rw [List.length_map, List.length_range] at l'
    exact l'
  · obtain ⟨e, rfl⟩ := y
    refine ⟨e, ?_⟩
    rw [List.length_map, List.length_range] at l
    rw [List.getElem?_map, List.getElem?_range l]
    rfl
/-- pairwise -/
inductive All2 {α β : Type} (R : α → β → Prop) : List α → List β → Prop
  | nil : All2 R [] []
  | cons {a : α} {b : β} {as : List α} {bs : List β} : R a b → All2 R as bs → All2 R (a :: as) (b :: bs)
theorem All2.imp {α β : Type} {R S : α → β → Prop} (f : ∀ a b, R a b → S a b) : ∀ {as : List α} {bs : List β}, All2 R as bs → All2 S as bs
  | _, _, .nil => .nil
  | _, _, .cons h t => .cons (f _ _ h) (All2.imp f t)
theorem All2.snoc {α β : Type} {R : α → β → Prop} {a : α} {b : β} (r : R a b) : ∀ {as : List α} {bs : List β}, All2 R as bs → All2 R (as ++ [a]) (bs ++ [b])
  | _, _, .nil => .cons r .nil
  | _, _, .cons h t => .cons h (All2.snoc r t)
theorem All2.len {α β : Type} {R : α → β → Prop} : ∀ {as : List α} {bs : List β}, All2 R as bs → as.length = bs.length
  | _, _, .nil => rfl
  | _, _, .cons _ t => congrArg Nat.succ (All2.len t)
theorem All2.map {α β : Type} {f : α → β} : ∀ {as : List α} {bs : List β}, All2 (fun a b => b = f a) as bs → bs = as.map f
  | _, _, .nil => rfl
  | _, _, .cons h t => by rw [h, All2.map t]; rfl
section
variable {J : It} {zs : List V} {St : Hp → Prop} {g : TG} {te : TE} {vs : List Nat} {σ : L2.St} {H1 : Hp} {Q : VK} {p : Option Addr} {Rel : Hp → V → V → Prop}
theorem lc_into {wi : TI} {tt : TT} {H : Hp} (h : wi σ H fun J H1 => tLcS (fun _ _ R => R J H1) g tt te vs σ H1 Q) : tLcS wi g tt te vs σ H Q := by
  rw [lcS] at *
  exact h
/-- [e for t in i]: no item raises; the one for c gives something that Rel tells of c, and changes nothing that stood but p -/
theorem lc_overA {α : Type} {as : List α} {Rel : Hp → α → V → Prop} (O : IterOf J zs St) (hz : as.length = zs.length) (hRel : ∀ c y H H', Pt H H' → Rel H c y → Rel H' c y) (hp : ∀ a, p = some a → ∃ o, H1 a = some o) (hlen : zs.length < sizeLine)
    (st : ∀ H', Kq p H1 H' → Pt H1 H' → St H')
    (step : ∀ (i : Nat) x c, zs[i]? = some x → as[i]? = some c → ∀ H', Kq p H1 H' → Pt H1 H' → ∀ R : VK, (∀ y H'', Kq p H' H'' → Pt H' H'' → Rel H'' c y → R y H'') → g x (wipe σ vs) H' fun σ2 H2 => wipe σ2 vs = wipe σ vs ∧ te σ2 H2 R)
    (fin : ∀ D ys H', Kq p H1 H' → Pt H1 H' → H1 D = none → H' D = some (.lst ys) → All2 (Rel H') as ys → Q (.ref D) H') :
    tLcS (fun _ _ R => R J H1) g tYes te vs σ H1 Q := by
  rw [lcS]
  intro D hD
  refine ⟨fun i m H => m = zs.length - i ∧ i ≤ zs.length ∧ Kq p H1 H ∧ Pt H1 H ∧ ∃ ys, H D = some (.lst ys) ∧ All2 (Rel H) (as.take i) ys, ⟨zs.length, rfl, Nat.zero_le _, Kq.refl.new hD, Pt.new hD, [], upd_same, by rw [List.take_zero]; exact .nil⟩, ?_⟩
  rintro i m H ⟨rfl, hi, kq, pt, ys, hys, all⟩
  have hst := st H kq pt
  by_cases hlt : i < zs.length
  · refine .inr ⟨O.go i H hst hlt, fun H' => i + 1 ≤ zs.length ∧ Kq p H1 H' ∧ Pt H1 H' ∧ ∃ ys, H' D = some (.lst ys) ∧ All2 (Rel H') (as.take (i + 1)) ys, fun H' h => ⟨zs.length - (i + 1), by omega, rfl, h⟩, fun x H' y => ?_⟩
    obtain ⟨rfl, hx⟩ := O.yld i H x H' hst hlt y
    have hia : i < as.length := by omega
    have hc : as[i]? = some as[i] := List.getElem?_eq_getElem hia
    have hDp : some D ≠ p := fun e => by
      obtain ⟨o, ho⟩ := hp D e.symm
      rw [hD] at ho
      cases ho
    show g x (wipe σ vs) H' fun σ2 H2 => wipe σ2 vs = wipe σ vs ∧ tYes σ2 H2 fun b H3 => if b = true then te σ2 H3 _ else _
    refine step i x as[i] hx hc H' kq pt _ fun y H'' k2 p2 r => ?_
    have hD2 := k2 D _ hDp hys
    have pD : Pt H'' (upd H'' D (.lst (ys ++ [y]))) := Pt.lst hD2
    have ptk : as.take (i + 1) = as.take i ++ [as[i]] := by
      rw [List.take_succ, hc]
      rfl
    have hl2 : ys.length < sizeLine := by
      rw [← all.len, List.length_take]
      omega
    refine ⟨ys, hD2, hl2, hlt, (kq.trans k2).new hD, (pt.trans p2).trans pD, ys ++ [y], upd_same, ?_⟩
    rw [ptk]
    exact All2.snoc (hRel _ _ _ _ pD r) (all.imp fun a b q => hRel _ _ _ _ (p2.trans pD) q)
  · have e : i = zs.length := by omega
    subst e
    rw [← hz, List.take_length] at all
    exact .inl ⟨O.stop H hst, fin D ys H kq pt hD hys all⟩
theorem lc_over (O : IterOf J zs St) (hRel : ∀ x y H H', Pt H H' → Rel H x y → Rel H' x y) (hp : ∀ a, p = some a → ∃ o, H1 a = some o) (hlen : zs.length < sizeLine)
    (st : ∀ H', Kq p H1 H' → Pt H1 H' → St H')
    (step : ∀ x ∈ zs, ∀ H', Kq p H1 H' → Pt H1 H' → ∀ R : VK, (∀ y H'', Kq p H' H'' → Pt H' H'' → Rel H'' x y → R y H'') → g x (wipe σ vs) H' fun σ2 H2 => wipe σ2 vs = wipe σ vs ∧ te σ2 H2 R)
    (fin : ∀ D ys H', Kq p H1 H' → Pt H1 H' → H1 D = none → H' D = some (.lst ys) → All2 (Rel H') zs ys → Q (.ref D) H') :
    tLcS (fun _ _ R => R J H1) g tYes te vs σ H1 Q :=
  lc_overA (as := zs) O rfl hRel hp hlen st (fun i x c hx hc => by
    rw [hx] at hc
    cases hc
    exact step x (List.mem_of_getElem? hx)) fin
end
end PM
namespace PM
open PySem PySem.Spec PyProof.Rows L2 ZX
section
variable {K : PySem.W.Frag} {H H' : Hp}
theorem Tv.tupI {v : V} {ds : List PyData} (h : Tv K H v (.tuple ds)) : ∃ a xs, v = .ref a ∧ SqT K H a xs ∧ Tvs K H xs ds := by
  cases h with
  | tup h t => exact ⟨_, _, rfl, h, t⟩
theorem Tv.strI {v : V} {x : Str} (h : Tv K H v (.str x)) : v = .str x := by
  cases h
  rfl
theorem Tv.intI {v : V} {i : Int} (h : Tv K H v (.int i)) : v = .int i := by
  cases h
  rfl
theorem tyT {a : Addr} {xs : List V} (h : SqT K H a xs) : TyX K H (.ref a) (.type "tuple") := by
  rcases h with (h | ⟨o, h⟩) | ⟨o, its, n, h, c, _⟩
  · exact .base (.tup h)
  · exact .fTuple h
  · exact .kTuple h c
theorem Tvs.all {R : V → PyData → Prop} (f : ∀ v d, Tv K H v d → R v d) : ∀ {vs : List V} {ds : List PyData}, Tvs K H vs ds → All2 R vs ds
  | _, _, .nil => .nil
  | _, _, .cons h t => .cons (f _ _ h) (Tvs.all f t)
theorem Tvs.snocI : ∀ {ds : List PyData} {vs : List V} {d : PyData}, Tvs K H vs (ds ++ [d]) → ∃ us u, vs = us ++ [u] ∧ Tvs K H us ds ∧ Tv K H u d
  | [], _, _, .cons h .nil => ⟨[], _, rfl, .nil, h⟩
  | _ :: _, _, _, .cons h t => by
    obtain ⟨us, u, rfl, h1, h2⟩ := Tvs.snocI t
    exact ⟨_ :: us, u, rfl, .cons h h1, h2⟩
theorem Tvs.rev : ∀ {vs : List V} {ds : List PyData}, Tvs K H vs ds → Tvs K H vs.reverse ds.reverse
  | _, _, .nil => .nil
  | _, _, .cons h t => by
    rw [List.reverse_cons, List.reverse_cons]
    exact Tvs.app (Tvs.rev t) (.cons h .nil)
theorem Tvs.ofAll2 {α : Type} {f : α → PyData} : ∀ {as : List α} {vs : List V}, All2 (fun a v => Tv K H v (f a)) as vs → Tvs K H vs (as.map f)
  | _, _, .nil => .nil
  | _, _, .cons h t => .cons h (Tvs.ofAll2 t)
theorem Tvs.ofAll : ∀ {vs : List V} {ds : List PyData}, All2 (fun v d => Tv K H v d) vs ds → Tvs K H vs ds
  | _, _, .nil => .nil
  | _, _, .cons h t => .cons h (Tvs.ofAll t)
end
/-! ### programs' form -/
def NameOk (x : Str) : Prop := 1 ≤ x.length ∧ x.length ≤ 8 ∧ ∀ c ∈ x.cps.toList, 97 ≤ c ∧ c ≤ 122
mutual
/-- a row that may stand in a block so deep -/
def okR : Nat → Rw → Prop
  | _, .note x o ps => NameOk x ∧ NameOk o ∧ ps.length ≤ 3 ∧ ∀ y ∈ ps, NameOk y
  | _, .copy x y => NameOk x ∧ NameOk y
  | _, .give x _ => NameOk x
  | _, .ask x => NameOk x
  | _, .prt x => NameOk x
  | d, .either a b => d < 4 ∧ a.length ≤ 12 ∧ b.length ≤ 12 ∧ okB (d + 1) a ∧ okB (d + 1) b
  | d, .again a => d < 4 ∧ a.length ≤ 12 ∧ okB (d + 1) a
def okB : Nat → List Rw → Prop
  | _, [] => True
  | d, r :: b => okR d r ∧ okB d b
end
end PM
namespace PM
open PySem PySem.Spec PyProof.Rows L2 ZX
theorem neS {a b : String} (h : decide (Str.ofString a = Str.ofString b) = false) : ¬ V.str (Str.ofString a) = V.str (Str.ofString b) := fun e => by
  injection e with e
  rw [e] at h
  simp at h
theorem same_new {H : Hp} {a : Addr} {o : HO} (n : H a = none) : Same H (upd H a o) := fun b u e => by
  rw [upd_ne (ne_of_none e n)]
  exact e
theorem at0 {x : V} {tl : List V} : atI (x :: tl) 0 = some x := at_of (j := 0) rfl rfl
/-- xs[1:] of a tuple that begins so -/
theorem cut1 {x : V} {tl : List V} : cutV (x :: tl) (some 1) none = tl := by
  have h1 : HT.sIx (x :: tl).length 0 (some 1) = 1 := by
    rw [show (some (1 : Int)) = some ((1 : Nat) : Int) from rfl, HT.sIx_nat]
    show min 1 (tl.length + 1) = 1
    omega
  have h2 : HT.sIx (x :: tl).length (x :: tl).length none = tl.length + 1 := rfl
  unfold cutV
  rw [h1, h2, List.drop_succ_cons, List.drop_zero]
  exact List.take_of_length_le (by omega)
theorem cut1_ne {x : V} {tl : List V} : ¬ (HT.sIx (x :: tl).length 0 (some 1) = 0 ∧ HT.sIx (x :: tl).length (x :: tl).length none = (x :: tl).length) := by
  rintro ⟨h, _⟩
  have h1 : HT.sIx (x :: tl).length 0 (some 1) = 1 := by
    rw [show (some (1 : Int)) = some ((1 : Nat) : Int) from rfl, HT.sIx_nat]
    show min 1 (tl.length + 1) = 1
    omega
  rw [h1] at h
  cases h
def wordR : Rw → Str
  | .note _ _ _ => "note"
  | .copy _ _ => "copy"
  | .give _ _ => "give"
  | .ask _ => "ask"
  | .prt _ => "print"
  | .either _ _ => "either"
  | .again _ => "again"
def argsR : Rw → List PyData
  | .note x o ps => [.str x, .str o, .tuple (ps.map .str)]
  | .copy x y => [.str x, .str y]
  | .give x i => [.str x, .int i]
  | .ask x => [.str x]
  | .prt x => [.str x]
  | .either a b => [.tuple (dB a), .tuple (dB b)]
  | .again a => [.tuple (dB a)]
theorem dR_eq (r : Rw) : dR r = .tuple (.str (wordR r) :: argsR r) := by
  cases r <;> rfl
theorem argsR_len (r : Rw) : 1 ≤ (argsR r).length ∧ (argsR r).length ≤ 3 := by
  cases r <;> exact ⟨by simp [argsR], by simp [argsR]⟩
section
variable {K : PySem.W.Frag} {H : Hp} {v : V}
theorem Tv.rowI {r : Rw} (h : Tv K H v (dR r)) : ∃ a tl, v = .ref a ∧ SqT K H a (.str (wordR r) :: tl) ∧ Tvs K H tl (argsR r) := by
  rw [dR_eq] at h
  obtain ⟨a, xs, rfl, hS, ht⟩ := h.tupI
  cases ht with
  | cons h1 t => cases h1 with
    | str _ => exact ⟨_, _, rfl, hS, t⟩
theorem Tvs.one {vs : List V} {d : PyData} (h : Tvs K H vs [d]) : ∃ v, vs = [v] ∧ Tv K H v d := by
  cases h with
  | cons h1 t => cases t with
    | nil => exact ⟨_, rfl, h1⟩
theorem Tvs.two {vs : List V} {d e : PyData} (h : Tvs K H vs [d, e]) : ∃ v u, vs = [v, u] ∧ Tv K H v d ∧ Tv K H u e := by
  cases h with
  | cons h1 t =>
    obtain ⟨u, rfl, h2⟩ := t.one
    exact ⟨_, _, rfl, h1, h2⟩
theorem Tvs.three {vs : List V} {d e f : PyData} (h : Tvs K H vs [d, e, f]) : ∃ v u t, vs = [v, u, t] ∧ Tv K H v d ∧ Tv K H u e ∧ Tv K H t f := by
  cases h with
  | cons h1 t =>
    obtain ⟨u, z, rfl, h2, h3⟩ := t.two
    exact ⟨_, _, _, rfl, h1, h2, h3⟩
end
end PM
set_option Elab.async false
set_option linter.all false
set_option maxRecDepth 100000
set_option maxHeartbeats 4000000
/-! List comprehensions with a word that holds between the turns. -/
namespace PM
open PySem PySem.Spec PyProof.Rows L2 ZX ZR
section
variable {J : It} {zs : List V} {St : Hp → Prop} {g : TG} {te : TE} {vs : List Nat} {σ : L2.St} {H1 : Hp} {Q : VK} {p : Option Addr}
theorem lc_overI {α : Type} {as : List α} {Rel : Hp → α → V → Prop} (Iv : Hp → Prop) (O : IterOf J zs St) (hz : as.length = zs.length) (hRel : ∀ c y H H', Pt H H' → Rel H c y → Rel H' c y) (hp : ∀ a, p = some a → ∃ o, H1 a = some o) (hlen : zs.length < sizeLine)
    (h0 : ∀ D, H1 D = none → Iv (upd H1 D (.lst []))) (hup : ∀ D H' o, H1 D = none → Iv H' → Iv (upd H' D o))
    (st : ∀ H', Kq p H1 H' → Pt H1 H' → Iv H' → St H')
    (step : ∀ (i : Nat) x c, zs[i]? = some x → as[i]? = some c → ∀ H', Kq p H1 H' → Pt H1 H' → Iv H' → ∀ R : VK, (∀ y H'', Kq p H' H'' → Pt H' H'' → Iv H'' → Rel H'' c y → R y H'') → g x (wipe σ vs) H' fun σ2 H2 => wipe σ2 vs = wipe σ vs ∧ te σ2 H2 R)
    (fin : ∀ D ys H', Kq p H1 H' → Pt H1 H' → Iv H' → H1 D = none → H' D = some (.lst ys) → All2 (Rel H') as ys → Q (.ref D) H') :
    tLcS (fun _ _ R => R J H1) g tYes te vs σ H1 Q := by
  rw [lcS]
  intro D hD
  refine ⟨fun i m H => m = zs.length - i ∧ i ≤ zs.length ∧ Kq p H1 H ∧ Pt H1 H ∧ Iv H ∧ ∃ ys, H D = some (.lst ys) ∧ All2 (Rel H) (as.take i) ys, ⟨zs.length, rfl, Nat.zero_le _, Kq.refl.new hD, Pt.new hD, h0 D hD, [], upd_same, by rw [List.take_zero]; exact .nil⟩, ?_⟩
  rintro i m H ⟨rfl, hi, kq, pt, iv, ys, hys, all⟩
  have hst := st H kq pt iv
  by_cases hlt : i < zs.length
  · refine .inr ⟨O.go i H hst hlt, fun H' => i + 1 ≤ zs.length ∧ Kq p H1 H' ∧ Pt H1 H' ∧ Iv H' ∧ ∃ ys, H' D = some (.lst ys) ∧ All2 (Rel H') (as.take (i + 1)) ys, fun H' h => ⟨zs.length - (i + 1), by omega, rfl, h⟩, fun x H' y => ?_⟩
    obtain ⟨rfl, hx⟩ := O.yld i H x H' hst hlt y
    have hia : i < as.length := by omega
    have hc : as[i]? = some as[i] := List.getElem?_eq_getElem hia
    have hDp : some D ≠ p := fun e => by
      obtain ⟨o, ho⟩ := hp D e.symm
      rw [hD] at ho
      cases ho
    show g x (wipe σ vs) H' fun σ2 H2 => wipe σ2 vs = wipe σ vs ∧ tYes σ2 H2 fun b H3 => if b = true then te σ2 H3 _ else _
    refine step i x as[i] hx hc H' kq pt iv _ fun y H'' k2 p2 iv2 r => ?_
    have hD2 := k2 D _ hDp hys
    have pD : Pt H'' (upd H'' D (.lst (ys ++ [y]))) := Pt.lst hD2
    have ptk : as.take (i + 1) = as.take i ++ [as[i]] := by
      rw [List.take_succ, hc]
      rfl
    have hl2 : ys.length < sizeLine := by
      rw [← all.len, List.length_take]
      omega
    refine ⟨ys, hD2, hl2, hlt, (kq.trans k2).new hD, (pt.trans p2).trans pD, hup D _ _ hD iv2, ys ++ [y], upd_same, ?_⟩
    rw [ptk]
    exact All2.snoc (hRel _ _ _ _ pD r) (all.imp fun a b q => hRel _ _ _ _ (p2.trans pD) q)
  · have e : i = zs.length := by omega
    subst e
    rw [← hz, List.take_length] at all
    exact .inl ⟨O.stop H hst, fin D ys H kq pt iv hD hys all⟩
end
end PM
set_option Elab.async false
set_option linter.all false
set_option maxRecDepth 100000
set_option maxHeartbeats 4000000
namespace K24
open PySem PySem.Spec PyProof.Rows L2 ZX PM ZR
def top (i : Nat) : Stmt := PySem.Challenge.pw_putoffpiles_k24_whole_holders_follow_eac.main.body.getD i (.Pass ⟨0, 0, 0, 0⟩)
/-- a def with one default behind its other parameters -/
abbrev FnPD (K : PySem.W.Frag) (x : Str) (st : Stmt) (dvs : List V) (f : Addr) (fd : FuncData) : Prop := FunD K x x (defArgs st) (defBody st) (defScope st) dvs [] f fd
abbrev FnP (K : PySem.W.Frag) (x : Str) (st : Stmt) (f : Addr) (fd : FuncData) : Prop := FunD K x x (defArgs st) (defBody st) (defScope st) [] [] f fd
/-- the built-ins' names, the numbers -/
structure Bi (mg : Str → Option Value) : Prop where
  b_abs : mg "abs" = none
  b_all : mg "all" = none
  b_bool : mg "bool" = none
  b_enumerate : mg "enumerate" = none
  b_int : mg "int" = none
  b_isinstance : mg "isinstance" = none
  b_len : mg "len" = none
  b_list : mg "list" = none
  b_range : mg "range" = none
  b_set : mg "set" = none
  b_sorted : mg "sorted" = none
  b_str : mg "str" = none
  b_sum : mg "sum" = none
  b_tuple : mg "tuple" = none
  b_zip : mg "zip" = none
  m_MOST_ROWS_IN_BLOCK : ∃ t, mg "MOST_ROWS_IN_BLOCK" = some (.int 12 t)
  m_MOST_ROWS : ∃ t, mg "MOST_ROWS" = some (.int 30 t)
  m_MOST_DEEP : ∃ t, mg "MOST_DEEP" = some (.int 4 t)
  m_MOST_NAMES : ∃ t, mg "MOST_NAMES" = some (.int 8 t)
  m_MOST_PARTS : ∃ t, mg "MOST_PARTS" = some (.int 3 t)
  m_MOST_LETTERS : ∃ t, mg "MOST_LETTERS" = some (.int 8 t)
/-- the words that ask, a tuple of the top -/
def Asking (K : PySem.W.Frag) (mg : Str → Option Value) : Prop := ∃ a, mg "ASKING" = some (.ref a) ∧ ∀ H, SqT K H a [V.str "ask", V.str "print"]
abbrev sIs_integer : Stmt := top 21
abbrev sIs_number_below : Stmt := top 22
abbrev sIs_name : Stmt := top 23
abbrev sIs_parts : Stmt := top 25
abbrev sIs_block : Stmt := top 26
abbrev sIs_row : Stmt := top 27
abbrev sBlocks_of : Stmt := top 28
abbrev sNames_of : Stmt := top 29
abbrev sFormless_place : Stmt := top 30
abbrev sRows_of : Stmt := top 31
abbrev sAll_names : Stmt := top 32
abbrev sBad_place : Stmt := top 33
abbrev sBlock_leads : Stmt := top 34
abbrev sRow_leads : Stmt := top 35
abbrev sProgramInit : Stmt := inClass (top 36) 0
abbrev sProgramEq : Stmt := inClass (top 36) 1
abbrev sNames : Stmt := top 37
abbrev sRow_at : Stmt := top 39
abbrev sNexts : Stmt := top 40
/-! ### promises -/
inductive NumV (K : PySem.W.Frag) (H : Hp) : V → Bool → Prop
  | int (i : Int) : NumV K H (.int i) true
  | bl (b : Bool) : NumV K H (.bl b) false
  | oth {v : V} {t : Value} (h : TyX K H v t) (e : PySem.W.kitOne K t (.type "int") = some false) : NumV K H v false
def spIsInt (K : PySem.W.Frag) : Sp := fun vs H Q _ => ∃ v b, vs = [v] ∧ NumV K H v b ∧ Q (.bl b) H
def spBelow (K : PySem.W.Frag) : Sp := fun vs H Q _ => ∃ m v, vs = [.int m, v] ∧ ((∃ i, v = .int i ∧ Q (.bl (decide (0 ≤ i) && decide (i < m))) H) ∨ (NumV K H v false ∧ Q (.bl false) H))
def spIsName : Sp := fun vs H Q _ => ∃ x, vs = [.str x] ∧ NameOk x ∧ ∀ H', Same H H' → Q (.bl true) H'
def spIsParts (K : PySem.W.Frag) : Sp := fun vs H Q _ => ∃ (v : V) (ps : List Str), vs = [v] ∧ Tv K H v (.tuple (ps.map .str)) ∧ ps.length ≤ 3 ∧ (∀ y ∈ ps, NameOk y) ∧ ∀ H', Same H H' → Q (.bl true) H'
def spIsBlock (K : PySem.W.Frag) : Sp := fun vs H Q _ => ∃ (d : Int) (v : V) (ds : List PyData), vs = [.int d, v] ∧ Tv K H v (.tuple ds) ∧ ds.length ≤ 12 ∧ d ≤ 4 ∧ Q (.bl true) H
section
variable {P : Program} {w : World} {K : PySem.W.Frag} {mg : Str → Option Value} {base : Heap}
theorem scIs_integer : FnScope ["thing"] ["thing"] (defScope sIs_integer) := ⟨rfl, rfl, rfl, by decide +kernel, rfl, by decide +kernel, by decide +kernel⟩
theorem ok_is_integer {f : Addr} {fd : FuncData} (F : FnP K "is_integer" sIs_integer f fd) (T : Bi mg) : FnOk P w K mg base CX0 1 f fd ["thing"] (spIsInt K) := by
  refine F.ok scIs_integer (fun vs H Q E h => ?_) (fun cdv A outer s H vs Q E hr h => ?_)
  · obtain ⟨v, b, rfl, _⟩ := h
    rfl
  · obtain ⟨v, b, rfl, hn, k⟩ := h
    refine ⟨_, PSs.nox (pss_one (ps_ret (pe_and (pe_callB call_isi (by rfl) T.b_isinstance (by decide +kernel) (pa_cons (pv 0) (pa_cons (pe_bltn (v := .ty "int") (by rfl) T.b_int (by decide +kernel) rfl) pa_nil))) (pe_one (pe_not (pe_callB call_isi (by rfl) T.b_isinstance (by decide +kernel) (pa_cons (pv 0) (pa_cons (pe_bltn (v := .ty "bool") (by rfl) T.b_bool (by decide +kernel) rfl) pa_nil)))))))), ?_⟩
    cases hn with
    | int i => exact ⟨_, rfl, _, _, _, _, true, rfl, .ty "int", .base (.int i), rfl, _, rfl, _, rfl, _, _, _, _, false, rfl, .ty "bool", .base (.int i), rfl, _, rfl, k⟩
    | bl c => exact ⟨_, rfl, _, _, _, _, true, rfl, .ty "int", .base (.bl c), rfl, _, rfl, _, rfl, _, _, _, _, true, rfl, .ty "bool", .base (.bl c), rfl, _, rfl, k⟩
    | oth ht e => exact ⟨_, rfl, _, _, _, _, false, rfl, .ty "int", ht, e, _, rfl, k⟩
theorem scIs_number_below : FnScope ["limit", "thing"] ["limit", "thing"] (defScope sIs_number_below) := ⟨rfl, rfl, rfl, by decide +kernel, rfl, by decide +kernel, by decide +kernel⟩
theorem ok_below {f : Addr} {fd : FuncData} (F : FnP K "is_number_below" sIs_number_below f fd) (T : Bi mg) (C1 : Cal P w K mg base "is_integer" 1 ["thing"] (spIsInt K)) : FnOk P w K mg base CX0 2 f fd ["limit", "thing"] (spBelow K) := by
  refine F.ok scIs_number_below (fun vs H Q E h => ?_) (fun cdv A outer s H vs Q E hr h => ?_)
  · obtain ⟨m, v, rfl, _⟩ := h
    rfl
  · obtain ⟨m, v, rfl, h⟩ := h
    refine ⟨_, PSs.nox (pss_one (ps_ret (pe_and (pcal C1 hr rfl (pa_cons (pv 1) pa_nil)) (pe_one (pe_chain op_le op_lt pe_int (pv 1) (pv 0)))))), ?_⟩
    rcases h with ⟨i, rfl, k⟩ | ⟨hn, k⟩
    · refine ⟨_, rfl, _, true, rfl, .int i, true, rfl, _, rfl, _, _, rfl, rfl, _, rfl, ?_⟩
      refine ite2 (fun e => ?_) (fun e => ?_)
      · rw [e] at k
        exact ⟨_, rfl, _, _, rfl, rfl, k⟩
      · rw [Bool.eq_false_iff.mpr e] at k
        exact k
    · exact ⟨_, rfl, _, false, rfl, hn, false, rfl, k⟩
theorem le_a {c : Nat} (h : 97 ≤ c) : ¬ (⟨#[c]⟩ : Str).cps.toList < (Str.ofString "a").cps.toList := by
  intro z
  have z' : [c] < [97] := z
  cases z' with
  | rel h2 => exact absurd h (by have : c < 97 := h2; omega)
  | cons h2 => cases h2
theorem le_z {c : Nat} (h : c ≤ 122) : ¬ (Str.ofString "z").cps.toList < (⟨#[c]⟩ : Str).cps.toList := by
  intro z
  have z' : [122] < [c] := z
  cases z' with
  | rel h2 => exact absurd h (by have : 122 < c := h2; omega)
  | cons h2 => cases h2
theorem scIs_name : FnScope ["thing", "sign"] ["thing"] (defScope sIs_name) := ⟨rfl, rfl, rfl, by decide +kernel, rfl, by decide +kernel, by decide +kernel⟩
theorem ok_is_name {f : Addr} {fd : FuncData} (F : FnP K "is_name" sIs_name f fd) (T : Bi mg) : FnOk P w K mg base CX0 1 f fd ["thing"] spIsName := by
  refine F.ok scIs_name (fun vs H Q E h => ?_) (fun cdv A outer s H vs Q E hr h => ?_)
  · obtain ⟨x, rfl, _⟩ := h
    rfl
  · obtain ⟨x, rfl, ⟨n1, n8, nc⟩, k⟩ := h
    obtain ⟨t8, m8⟩ := T.m_MOST_LETTERS
    refine ⟨_, PSs.nox (pss_cons (ps_if (PW.pt (pw_or (pt_not (pt_val (pe_callB call_isi (by rfl) T.b_isinstance (by decide +kernel) (pa_cons (pv 0) (pa_cons (pe_bltn (v := .ty "str") (by rfl) T.b_str (by decide +kernel) rfl) pa_nil))))) (pw_or1 (pt_not (pt_chain op_le op_le pe_int (pe_callB call_len_str (by rfl) T.b_len (by decide +kernel) (pa_cons (pv 0) pa_nil)) (pe_glob (v := .int 8) rfl m8 ⟨_, rfl⟩)))))) (pss_one (ps_ret pe_bl)) pss_nil)
    (pss_one (ps_ret (pe_callB (cr_all rfl) (by rfl) T.b_all (by decide +kernel) (pa_cons (pe_lcS (own := [("sign", 1)]) (g := gName 1) (tt := tYes) (by rfl) scIs_name.nd (pi_str (pv 0)) (blkOk_by (N := ["thing", "sign"]) (sc := defScope sIs_name) (by decide +kernel)) (fun _ _ _ _ _ => (pg_name (i := 1) scIs_name.nd rfl (Or.inl rfl))) (fun _ _ _ _ _ => pts_nil) (fun _ _ _ _ _ => (pe_chain op_le_str op_le_str pe_str (pv 1) pe_str))) pa_nil))))), ?_⟩
    have hz : x.length ≤ sizeLine := Nat.le_trans n8 (by decide)
    refine ⟨_, rfl, _, _, _, _, true, rfl, .ty "str", .base (.str x), rfl, true, rfl, _, rfl, _, rfl, hz, _, _, rfl, rfl, _, rfl, ifD (by omega) ⟨_, _, rfl, rfl, _, rfl, ?_⟩⟩
    rw [decide_eq_true (show (x.length : Int) ≤ 8 by omega)]
    refine lc_into ?_
    refine ⟨_, rfl, _, rfl, ?_⟩
    refine lc_over (p := none) (Rel := fun _ _ y => y = .bl true) it_str (fun _ _ _ _ _ h => h) (fun _ h => nomatch h) ?_ (fun _ _ _ => trivial) ?_ ?_
    · rw [letters_len]
      exact Nat.lt_of_le_of_lt n8 (by decide)
    · intro z hz H' _ _ R k
      obtain ⟨c, hc, rfl⟩ := List.mem_map.mp hz
      obtain ⟨c1, c2⟩ := nc c hc
      have ha : ¬ (⟨#[c]⟩ : Str).cps.toList < (Str.ofString "a").cps.toList := le_a c1
      have hb : ¬ (Str.ofString "z").cps.toList < (⟨#[c]⟩ : Str).cps.toList := le_z c2
      have e1 : (!decide ((⟨#[c]⟩ : Str).cps.toList < (Str.ofString "a").cps.toList)) = true := by rw [decide_eq_false ha]; rfl
      have e2 : (!decide ((Str.ofString "z").cps.toList < (⟨#[c]⟩ : Str).cps.toList)) = true := by rw [decide_eq_false hb]; rfl
      refine ⟨rfl, _, rfl, _, _, rfl, rfl, _, rfl, ifB e1 ⟨_, _, rfl, rfl, ?_⟩⟩
      rw [e2]
      exact k _ _ Kq.refl (Pt.refl _) rfl
    · intro D ys H' kq _ _ hD all
      have e := All2.map all
      subst e
      refine ⟨D, (letters x).map fun _ => true, rfl, SqL.of (by rw [hD, List.map_map]; rfl), ?_⟩
      have ha : ((letters x).map fun _ => true).all id = true := by simp
      rw [ha]
      exact k _ kq.same
end
end K24
set_option Elab.async false
set_option linter.all false
set_option maxRecDepth 100000
set_option maxHeartbeats 4000000
namespace K24
open PySem PySem.Spec PyProof.Rows L2 ZX PM ZR
def spIsRow (K : PySem.W.Frag) : Sp := fun vs H Q _ => ∃ (d : Nat) (v : V) (r : Rw) (m : Int), vs = [.int d, v, .int m] ∧ RV K H v r ∧ okR d r ∧ ∀ H', Same H H' → Q (.bl true) H'
def spBlocksOf (K : PySem.W.Frag) : Sp := fun vs H Q _ => ∃ (v : V) (r : Rw), vs = [v] ∧ RV K H v r ∧ ∀ a ys H', Same H H' → SqT K H' a ys → Tvs K H' ys ((inner r).map fun b => .tuple (dB b)) → Q (.ref a) H'
section
variable {P : Program} {w : World} {K : PySem.W.Frag} {mg : Str → Option Value} {base : Heap}
theorem scIs_parts : FnScope ["thing", "part"] ["thing"] (defScope sIs_parts) := ⟨rfl, rfl, rfl, by decide +kernel, rfl, by decide +kernel, by decide +kernel⟩
theorem ok_is_parts {f : Addr} {fd : FuncData} (F : FnP K "is_parts" sIs_parts f fd) (T : Bi mg) (C1 : Cal P w K mg base "is_name" 1 ["thing"] spIsName) : FnOk P w K mg base CX0 2 f fd ["thing"] (spIsParts K) := by
  refine F.ok scIs_parts (fun vs H Q E h => ?_) (fun cdv A outer s H vs Q E hr h => ?_)
  · obtain ⟨v, ps, rfl, _⟩ := h
    rfl
  · obtain ⟨v, ps, rfl, tv, hl, hn, k⟩ := h
    obtain ⟨a, xs, rfl, hS, ht⟩ := tv.tupI
    have hx := Tvs.strs ht
    subst hx
    obtain ⟨t3, m3⟩ := T.m_MOST_PARTS
    refine ⟨_, PSs.nox (pss_one (ps_ret (pe_and (pe_callB call_isi (by rfl) T.b_isinstance (by decide +kernel) (pa_cons (pv 0) (pa_cons (pe_bltn (v := .ty "tuple") (by rfl) T.b_tuple (by decide +kernel) rfl) pa_nil))) (pe_and (pe_cmpR op_le (pe_callB call_len_seq (by rfl) T.b_len (by decide +kernel) (pa_cons (pv 0) pa_nil)) (pe_glob (v := .int 3) rfl m3 ⟨_, rfl⟩) (nomark _)) (pe_one (pe_callB (cr_all rfl) (by rfl) T.b_all (by decide +kernel) (pa_cons (pe_lcS (own := [("part", 1)]) (g := gName 1) (tt := tYes) (by rfl) scIs_parts.nd (pi_tup (pv 0)) (blkOk_by (N := ["thing", "part"]) (sc := defScope sIs_parts) (by decide +kernel)) (fun _ _ _ _ _ => (pg_name (i := 1) scIs_parts.nd rfl (Or.inl rfl))) (fun _ _ _ _ _ => pts_nil) (fun _ _ _ _ _ => (pcal C1 hr rfl (pa_cons (pv 1) pa_nil)))) pa_nil))))))), ?_⟩
    refine ⟨_, rfl, _, _, _, _, true, rfl, .ty "tuple", tyT hS, rfl, _, rfl, _, rfl, a, _, rfl, .inr hS, _, _, rfl, rfl, _, rfl, ?_⟩
    refine ifD (by rw [List.length_map]; omega) ?_
    refine lc_into ?_
    refine ⟨_, rfl, _, rfl, ⟨_, hS⟩, ?_⟩
    refine lc_over (p := none) (Rel := fun _ _ y => y = .bl true) it_tup (fun _ _ _ _ _ h => h) (fun _ h => nomatch h) ?_ (fun H' _ pt => pt.sq hS) ?_ ?_
    · rw [List.length_map]
      exact Nat.lt_of_le_of_lt hl (by decide)
    · intro z hz H' _ _ R k
      obtain ⟨y, hy, rfl⟩ := List.mem_map.mp hz
      exact ⟨rfl, _, rfl, y, rfl, hn y hy, fun H'' sm => k _ _ (Same.kq sm) (Same.pt sm) rfl⟩
    · intro D ys H' kq _ _ hD all
      have e := All2.map all
      subst e
      refine ⟨D, ps.map fun _ => true, rfl, SqL.of (by rw [hD, List.map_map, List.map_map]; rfl), ?_⟩
      have ha : (ps.map fun _ => true).all id = true := by simp
      rw [ha]
      exact k _ kq.same
theorem scIs_block : FnScope ["deep", "thing"] ["deep", "thing"] (defScope sIs_block) := ⟨rfl, rfl, rfl, by decide +kernel, rfl, by decide +kernel, by decide +kernel⟩
theorem ok_is_block {f : Addr} {fd : FuncData} (F : FnP K "is_block" sIs_block f fd) (T : Bi mg) : FnOk P w K mg base CX0 1 f fd ["deep", "thing"] (spIsBlock K) := by
  refine F.ok scIs_block (fun vs H Q E h => ?_) (fun cdv A outer s H vs Q E hr h => ?_)
  · obtain ⟨d, v, ds, rfl, _⟩ := h
    rfl
  · obtain ⟨d, v, ds, rfl, tv, hl, hd, k⟩ := h
    obtain ⟨a, xs, rfl, hS, ht⟩ := tv.tupI
    obtain ⟨t12, m12⟩ := T.m_MOST_ROWS_IN_BLOCK
    obtain ⟨t4, m4⟩ := T.m_MOST_DEEP
    refine ⟨_, PSs.nox (pss_one (ps_ret (pe_and (pe_callB call_isi (by rfl) T.b_isinstance (by decide +kernel) (pa_cons (pv 1) (pa_cons (pe_bltn (v := .ty "tuple") (by rfl) T.b_tuple (by decide +kernel) rfl) pa_nil))) (pe_and (pe_cmpR op_le (pe_callB call_len_seq (by rfl) T.b_len (by decide +kernel) (pa_cons (pv 1) pa_nil)) (pe_glob (v := .int 12) rfl m12 ⟨_, rfl⟩) (nomark _)) (pe_one (pe_cmpR op_le (pv 0) (pe_glob (v := .int 4) rfl m4 ⟨_, rfl⟩) (nomark _))))))), ?_⟩
    refine ⟨_, rfl, _, _, _, _, true, rfl, .ty "tuple", tyT hS, rfl, _, rfl, _, rfl, a, _, rfl, .inr hS, _, _, rfl, rfl, _, rfl, ?_⟩
    refine ifD (by rw [ht.len]; omega) ⟨_, rfl, _, _, rfl, rfl, ?_⟩
    show Q (.bl (decide (d ≤ 4))) H
    rw [decide_eq_true hd]
    exact k
end
end K24
set_option Elab.async false
set_option linter.all false
set_option maxRecDepth 100000
set_option maxHeartbeats 4000000
namespace K24
open PySem PySem.Spec PyProof.Rows L2 ZX PM ZR
section
variable {P : Program} {w : World} {K : PySem.W.Frag} {mg : Str → Option Value} {base : Heap}
theorem dB_le {b : List Rw} {n : Nat} (h : b.length ≤ n) : (dB b).length ≤ n := by
  rw [dB_eq, List.length_map]
  exact h
theorem scIs_row : FnScope ["deep", "thing", "many", "word", "rest"] ["deep", "thing", "many"] (defScope sIs_row) := ⟨rfl, rfl, rfl, by decide +kernel, rfl, by decide +kernel, by decide +kernel⟩
theorem ok_is_row {f : Addr} {fd : FuncData} (F : FnPD K "is_row" sIs_row [.int 0] f fd) (T : Bi mg) (hA : Asking K mg) (C_is_integer : Cal P w K mg base "is_integer" 1 ["thing"] (spIsInt K)) (C_is_number_below : Cal P w K mg base "is_number_below" 2 ["limit", "thing"] (spBelow K)) (C_is_name : Cal P w K mg base "is_name" 1 ["thing"] spIsName)
    (C_is_parts : Cal P w K mg base "is_parts" 2 ["thing"] (spIsParts K)) (C_is_block : Cal P w K mg base "is_block" 1 ["deep", "thing"] (spIsBlock K)) : FnOk P w K mg base CX0 3 f fd ["deep", "thing", "many"] (spIsRow K) := by
  refine F.ok scIs_row (fun vs H Q E h => ?_) (fun cdv A outer s H vs Q E hr h => ?_)
  · obtain ⟨d, v, r, m, rfl, _⟩ := h
    rfl
  · obtain ⟨d, v, r, m, rfl, tv, ok, k⟩ := h
    have hr_is_integer := hr.mono (show 1 ≤ 2 by decide)
    have hr_is_name := hr_is_integer
    have hr_is_block := hr_is_integer
    have hr_is_parts := hr
    have hr_is_number_below := hr
    obtain ⟨aA, mA, hAs⟩ := hA
    obtain ⟨a, tl, rfl, hS, ht⟩ := tv.rowI
    refine ⟨_, PSs.nox (pss_cons (ps_if (PW.pt (pw_or (pt_not (pt_val (pe_callB call_isi (by rfl) T.b_isinstance (by decide +kernel) (pa_cons (pv 1) (pa_cons (pe_bltn (v := .ty "tuple") (by rfl) T.b_tuple (by decide +kernel) rfl) pa_nil))))) (pw_or (pt_not (pt_truth (pv 1) (by intro _; rfl))) (pw_or1 (pt_not (pt_val (pe_callB call_isi (by rfl) T.b_isinstance (by decide +kernel) (pa_cons (pe_ix ix_tup (pv 1) pe_int (fun _ _ => rfl)) (pa_cons (pe_bltn (v := .ty "str") (by rfl) T.b_str (by decide +kernel) rfl) pa_nil))))))))) (pss_one (ps_ret pe_bl)) pss_nil)
    (pss_cut (ps_par (by rfl) scIs_row.nd (i := 3) (j := 4) rfl rfl (by decide) rfl rfl (pa_cons (pe_ix ix_tup (pv 1) pe_int (fun _ _ => rfl)) (pa_cons (pe_slice sl_tup (pv 1) (po_some pe_int) po_none) pa_nil)) (by rfl))
    (pss_cons (ps_if (pt_cmpR op_eq (pv 3) pe_str (nomark _)) (pss_one (ps_ret (pe_and (pe_cmpR op_eq (pe_callB call_len_seq (by rfl) T.b_len (by decide +kernel) (pa_cons (pv 4) pa_nil)) pe_int (nomark _)) (pe_and (pcal C_is_name hr_is_name rfl (pa_cons (pe_ix ix_tup (pv 4) pe_int (fun _ _ => rfl)) pa_nil)) (pe_and (pcal C_is_name hr_is_name rfl (pa_cons (pe_ix ix_tup (pv 4) pe_int (fun _ _ => rfl)) pa_nil)) (pe_one (pcal C_is_parts hr_is_parts rfl (pa_cons (pe_ix ix_tup (pv 4) pe_int (fun _ _ => rfl)) pa_nil)))))))) pss_nil)
    (pss_cons (ps_if (pt_cmpR op_eq (pv 3) pe_str (nomark _)) (pss_one (ps_ret (pe_and (pe_cmpR op_eq (pe_callB call_len_seq (by rfl) T.b_len (by decide +kernel) (pa_cons (pv 4) pa_nil)) pe_int (nomark _)) (pe_and (pcal C_is_name hr_is_name rfl (pa_cons (pe_ix ix_tup (pv 4) pe_int (fun _ _ => rfl)) pa_nil)) (pe_one (pcal C_is_name hr_is_name rfl (pa_cons (pe_ix ix_tup (pv 4) pe_int (fun _ _ => rfl)) pa_nil))))))) pss_nil)
    (pss_cons (ps_if (pt_cmpR op_eq (pv 3) pe_str (nomark _)) (pss_one (ps_ret (pe_and (pe_cmpR op_eq (pe_callB call_len_seq (by rfl) T.b_len (by decide +kernel) (pa_cons (pv 4) pa_nil)) pe_int (nomark _)) (pe_and (pcal C_is_name hr_is_name rfl (pa_cons (pe_ix ix_tup (pv 4) pe_int (fun _ _ => rfl)) pa_nil)) (pe_one (pcal C_is_integer hr_is_integer rfl (pa_cons (pe_ix ix_tup (pv 4) pe_int (fun _ _ => rfl)) pa_nil))))))) pss_nil)
    (pss_cons (ps_if (pt_cmpR op_in_seq (pv 3) (pe_glob (v := .ref _) rfl mA rfl) (by with_unfolding_all rfl)) (pss_one (ps_ret (pe_and (pe_cmpR op_eq (pe_callB call_len_seq (by rfl) T.b_len (by decide +kernel) (pa_cons (pv 4) pa_nil)) pe_int (nomark _)) (pe_one (pcal C_is_name hr_is_name rfl (pa_cons (pe_ix ix_tup (pv 4) pe_int (fun _ _ => rfl)) pa_nil)))))) pss_nil)
    (pss_cons (ps_if (pt_cmpR op_eq (pv 3) pe_str (nomark _)) (pss_one (ps_ret (pe_and (pe_cmpR op_eq (pe_callB call_len_seq (by rfl) T.b_len (by decide +kernel) (pa_cons (pv 4) pa_nil)) pe_int (nomark _)) (pe_one (pcal C_is_number_below hr_is_number_below rfl (pa_cons (pv 2) (pa_cons (pe_ix ix_tup (pv 4) pe_int (fun _ _ => rfl)) pa_nil))))))) pss_nil)
    (pss_cons (ps_if (pt_cmpR op_eq (pv 3) pe_str (nomark _)) (pss_one (ps_ret (pe_and (pe_cmpR op_eq (pe_callB call_len_seq (by rfl) T.b_len (by decide +kernel) (pa_cons (pv 4) pa_nil)) pe_int (nomark _)) (pe_and (pcal C_is_block hr_is_block rfl (pa_cons (pe_op op_add (pv 0) pe_int) (pa_cons (pe_ix ix_tup (pv 4) pe_int (fun _ _ => rfl)) pa_nil))) (pe_one (pcal C_is_block hr_is_block rfl (pa_cons (pe_op op_add (pv 0) pe_int) (pa_cons (pe_ix ix_tup (pv 4) pe_int (fun _ _ => rfl)) pa_nil)))))))) pss_nil)
    (pss_one (ps_ret (pe_and (pe_cmpR op_eq (pv 3) pe_str (nomark _)) (pe_and (pe_cmpR op_eq (pe_callB call_len_seq (by rfl) T.b_len (by decide +kernel) (pa_cons (pv 4) pa_nil)) pe_int (nomark _)) (pe_one (pcal C_is_block hr_is_block rfl (pa_cons (pe_op op_add (pv 0) pe_int) (pa_cons (pe_ix ix_tup (pv 4) pe_int (fun _ _ => rfl)) pa_nil)))))))))))))))), ?_⟩
    refine ⟨_, rfl, _, _, _, _, true, rfl, .ty "tuple", tyT hS, rfl, true, rfl, _, rfl, true, .inr (.inl ⟨_, hS, rfl⟩), _, rfl, _, _, _, _, rfl, rfl, hS, at0, _, _, _, _, true, rfl, .ty "str", .base (.str _), rfl, true, rfl, ?_⟩
    refine ⟨fun σ' H' => ∃ p, σ' = [some (.int d), some (.ref a), some (.int m), some (.str (wordR r)), some (.ref p)] ∧ Same H H' ∧ SqT K H' p tl ∧ Tvs K H' tl (argsR r), ?_, ?_⟩
    · refine ⟨_, rfl, _, _, _, _, rfl, rfl, hS, at0, _, rfl, 1, rfl, a, _, rfl, hS, cut1_ne, fun p np => ⟨_, _, rfl, p, rfl, same_new np, ?_, ht.pt (Pt.new np)⟩⟩
      rw [cut1]
      exact .inl (.inl upd_same)
    · rintro σ' H' ⟨p, rfl, sm, hp, ht⟩
      cases r with
      | note x o ps =>
        obtain ⟨n1, n2, l3, n3⟩ := ok
        obtain ⟨v1, v2, v3, rfl, t1, t2, t3⟩ := ht.three
        cases t1.strI
        cases t2.strI
        exact ⟨_, rfl, rfl, _, rfl, ifD rfl ⟨_, rfl, p, _, rfl, .inr hp, rfl, _, rfl, ifD rfl ⟨_, rfl, _, _, _, _, rfl, rfl, hp, rfl, x, rfl, n1, fun H1 s1 => ⟨_, rfl, _, rfl, _, _, _, _, rfl, rfl, (Same.pt s1).sq hp, rfl, o, rfl, n2, fun H2 s2 => ⟨_, rfl, _, rfl, _, _, _, _, rfl, rfl, ((Same.pt s1).trans (Same.pt s2)).sq hp, rfl, _, ps, rfl, t3.pt ((Same.pt s1).trans (Same.pt s2)), l3, n3, fun H3 s3 => k H3 (((sm.trans s1).trans s2).trans s3)⟩⟩⟩⟩⟩
      | copy x y =>
        obtain ⟨n1, n2⟩ := ok
        obtain ⟨v1, v2, rfl, t1, t2⟩ := ht.two
        cases t1.strI
        cases t2.strI
        refine ⟨_, rfl, rfl, _, rfl, ifDF (neS (a := "copy") (b := "note") (by decide +kernel)) ?_⟩
        exact ⟨_, rfl, rfl, _, rfl, ifD rfl ⟨_, rfl, p, _, rfl, .inr hp, rfl, _, rfl, ifD rfl ⟨_, rfl, _, _, _, _, rfl, rfl, hp, rfl, x, rfl, n1, fun H1 s1 => ⟨_, rfl, _, rfl, _, _, _, _, rfl, rfl, (Same.pt s1).sq hp, rfl, y, rfl, n2, fun H2 s2 => k H2 ((sm.trans s1).trans s2)⟩⟩⟩⟩
      | give x i =>
        have n1 : NameOk x := ok
        obtain ⟨v1, v2, rfl, t1, t2⟩ := ht.two
        cases t1.strI
        cases t2.intI
        refine ⟨_, rfl, rfl, _, rfl, ifDF (neS (a := "give") (b := "note") (by decide +kernel)) ?_⟩
        refine ⟨_, rfl, rfl, _, rfl, ifDF (neS (a := "give") (b := "copy") (by decide +kernel)) ?_⟩
        exact ⟨_, rfl, rfl, _, rfl, ifD rfl ⟨_, rfl, p, _, rfl, .inr hp, rfl, _, rfl, ifD rfl ⟨_, rfl, _, _, _, _, rfl, rfl, hp, rfl, x, rfl, n1, fun H1 s1 => ⟨_, rfl, _, rfl, _, _, _, _, rfl, rfl, (Same.pt s1).sq hp, rfl, _, _, rfl, .int i, k H1 (sm.trans s1)⟩⟩⟩⟩
      | ask x =>
        have n1 : NameOk x := ok
        obtain ⟨v1, rfl, t1⟩ := ht.one
        cases t1.strI
        refine ⟨_, rfl, rfl, _, rfl, ifDF (neS (a := "ask") (b := "note") (by decide +kernel)) ?_⟩
        refine ⟨_, rfl, rfl, _, rfl, ifDF (neS (a := "ask") (b := "copy") (by decide +kernel)) ?_⟩
        refine ⟨_, rfl, rfl, _, rfl, ifDF (neS (a := "ask") (b := "give") (by decide +kernel)) ?_⟩
        exact ⟨_, rfl, aA, _, rfl, .inr (hAs _), rfl, rfl, _, rfl, ifB (show inV (V.str (Str.ofString "ask")) [V.str (Str.ofString "ask"), V.str (Str.ofString "print")] = true by decide +kernel) ⟨_, rfl, p, _, rfl, .inr hp, rfl, _, rfl, ifD rfl ⟨_, rfl, _, _, _, _, rfl, rfl, hp, rfl, x, rfl, n1, fun H1 s1 => k H1 (sm.trans s1)⟩⟩⟩
      | prt x =>
        have n1 : NameOk x := ok
        obtain ⟨v1, rfl, t1⟩ := ht.one
        cases t1.strI
        refine ⟨_, rfl, rfl, _, rfl, ifDF (neS (a := "print") (b := "note") (by decide +kernel)) ?_⟩
        refine ⟨_, rfl, rfl, _, rfl, ifDF (neS (a := "print") (b := "copy") (by decide +kernel)) ?_⟩
        refine ⟨_, rfl, rfl, _, rfl, ifDF (neS (a := "print") (b := "give") (by decide +kernel)) ?_⟩
        exact ⟨_, rfl, aA, _, rfl, .inr (hAs _), rfl, rfl, _, rfl, ifB (show inV (V.str (Str.ofString "print")) [V.str (Str.ofString "ask"), V.str (Str.ofString "print")] = true by decide +kernel) ⟨_, rfl, p, _, rfl, .inr hp, rfl, _, rfl, ifD rfl ⟨_, rfl, _, _, _, _, rfl, rfl, hp, rfl, x, rfl, n1, fun H1 s1 => k H1 (sm.trans s1)⟩⟩⟩
      | either b1 b2 =>
        obtain ⟨d4, l1, l2, _, _⟩ := ok
        obtain ⟨v1, v2, rfl, t1, t2⟩ := ht.two
        refine ⟨_, rfl, rfl, _, rfl, ifDF (neS (a := "either") (b := "note") (by decide +kernel)) ?_⟩
        refine ⟨_, rfl, rfl, _, rfl, ifDF (neS (a := "either") (b := "copy") (by decide +kernel)) ?_⟩
        refine ⟨_, rfl, rfl, _, rfl, ifDF (neS (a := "either") (b := "give") (by decide +kernel)) ?_⟩
        refine ⟨_, rfl, aA, _, rfl, .inr (hAs _), rfl, rfl, _, rfl, ifBF (show inV (V.str (Str.ofString "either")) [V.str (Str.ofString "ask"), V.str (Str.ofString "print")] = false by decide +kernel) ?_⟩
        refine ⟨_, rfl, rfl, _, rfl, ifDF (neS (a := "either") (b := "call") (by decide +kernel)) ?_⟩
        exact ⟨_, rfl, rfl, _, rfl, ifD rfl ⟨_, rfl, p, _, rfl, .inr hp, rfl, _, rfl, ifD rfl ⟨_, rfl, _, _, rfl, rfl, _, rfl, _, _, _, _, rfl, rfl, hp, rfl, _, _, _, rfl, t1, dB_le l1, by omega, ⟨_, rfl, _, rfl, _, _, rfl, rfl, _, rfl, _, _, _, _, rfl, rfl, hp, rfl, _, _, _, rfl, t2, dB_le l2, by omega, k H' sm⟩⟩⟩⟩
      | again b1 =>
        obtain ⟨d4, l1, _⟩ := ok
        obtain ⟨v1, rfl, t1⟩ := ht.one
        refine ⟨_, rfl, rfl, _, rfl, ifDF (neS (a := "again") (b := "note") (by decide +kernel)) ?_⟩
        refine ⟨_, rfl, rfl, _, rfl, ifDF (neS (a := "again") (b := "copy") (by decide +kernel)) ?_⟩
        refine ⟨_, rfl, rfl, _, rfl, ifDF (neS (a := "again") (b := "give") (by decide +kernel)) ?_⟩
        refine ⟨_, rfl, aA, _, rfl, .inr (hAs _), rfl, rfl, _, rfl, ifBF (show inV (V.str (Str.ofString "again")) [V.str (Str.ofString "ask"), V.str (Str.ofString "print")] = false by decide +kernel) ?_⟩
        refine ⟨_, rfl, rfl, _, rfl, ifDF (neS (a := "again") (b := "call") (by decide +kernel)) ?_⟩
        refine ⟨_, rfl, rfl, _, rfl, ifDF (neS (a := "again") (b := "either") (by decide +kernel)) ?_⟩
        exact ⟨_, rfl, rfl, _, rfl, ifD rfl ⟨_, rfl, p, _, rfl, .inr hp, rfl, _, rfl, ifD rfl ⟨_, rfl, _, _, rfl, rfl, _, rfl, _, _, _, _, rfl, rfl, hp, rfl, _, _, _, rfl, t1, dB_le l1, by omega, k H' sm⟩⟩⟩
end
end K24
set_option Elab.async false
set_option linter.all false
set_option maxRecDepth 100000
set_option maxHeartbeats 4000000
namespace PM
open PySem PySem.Spec PyProof.Rows L2 ZX
theorem _root_.L2.Same.put {H H' : Hp} {l : Addr} {o : HO} (s : Same H H') (n : H l = none) : Same H (upd H' l o) := fun b u e => by
  rw [upd_ne (ne_of_none e n)]
  exact s b u e
theorem fm_take {α β : Type} {f : α → List β} {l : List α} {i : Nat} {x : α} (h : l[i]? = some x) : (l.take (i + 1)).flatMap f = (l.take i).flatMap f ++ f x := by
  rw [List.take_succ, h, List.flatMap_append]
  simp
theorem fm_le {α β : Type} {f : α → List β} (l : List α) (i : Nat) : ((l.take i).flatMap f).length ≤ (l.flatMap f).length := by
  have e : (l.take i ++ l.drop i).flatMap f = l.flatMap f := by rw [List.take_append_drop]
  rw [← e, List.flatMap_append, List.length_append]
  exact Nat.le_add_right _ _
theorem fm_le1 {α β : Type} {f : α → List β} {l : List α} {i : Nat} {x : α} (h : l[i]? = some x) : ((l.take i).flatMap f ++ f x).length ≤ (l.flatMap f).length := by
  rw [← fm_take h]
  exact fm_le l (i + 1)
theorem depB_mem {r : Rw} : ∀ {b : List Rw}, r ∈ b → depR r ≤ depB b
  | _ :: b, h => by
    rcases List.mem_cons.mp h with h | h
    · subst h
      exact Nat.le_max_left _ _
    · exact Nat.le_trans (depB_mem h) (Nat.le_max_right _ _)
theorem dep_inner {r : Rw} {c : List Rw} (h : c ∈ inner r) : depB c < depR r := by
  cases r with
  | either a b =>
    simp [inner] at h
    rcases h with rfl | rfl
    · exact Nat.lt_succ_of_le (Nat.le_max_left _ _)
    · exact Nat.lt_succ_of_le (Nat.le_max_right _ _)
  | again a =>
    simp [inner] at h
    subst h
    exact Nat.lt_succ_self _
  | _ => simp [inner] at h
theorem inner_args (r : Rw) (h : inner r ≠ []) : argsR r = (inner r).map fun b => .tuple (dB b) := by
  cases r <;> simp [inner] at h <;> rfl
theorem word_inner (r : Rw) : (inner r).isEmpty = !((wordR r == Str.ofString "either") || (wordR r == Str.ofString "again")) := by
  cases r with
  | note _ _ _ => exact (by decide +kernel : true = !(Str.ofString "note" == Str.ofString "either" || Str.ofString "note" == Str.ofString "again"))
  | copy _ _ => exact (by decide +kernel : true = !(Str.ofString "copy" == Str.ofString "either" || Str.ofString "copy" == Str.ofString "again"))
  | give _ _ => exact (by decide +kernel : true = !(Str.ofString "give" == Str.ofString "either" || Str.ofString "give" == Str.ofString "again"))
  | ask _ => exact (by decide +kernel : true = !(Str.ofString "ask" == Str.ofString "either" || Str.ofString "ask" == Str.ofString "again"))
  | prt _ => exact (by decide +kernel : true = !(Str.ofString "print" == Str.ofString "either" || Str.ofString "print" == Str.ofString "again"))
  | either _ _ => exact (by decide +kernel : false = !(Str.ofString "either" == Str.ofString "either" || Str.ofString "either" == Str.ofString "again"))
  | again _ => exact (by decide +kernel : false = !(Str.ofString "again" == Str.ofString "either" || Str.ofString "again" == Str.ofString "again"))
section
variable {K : PySem.W.Frag} {H : Hp}
theorem Tvs.nthR {vs : List V} {b : List Rw} {i : Nat} {x : V} (t : Tvs K H vs (dB b)) (h : vs[i]? = some x) : ∃ r, b[i]? = some r ∧ RV K H x r := by
  have hl : i < vs.length := (List.getElem?_eq_some_iff.mp h).1
  rw [t.len, dB_eq, List.length_map] at hl
  obtain ⟨v, hv, tv⟩ := Tvs.get (i := i) (d := dR b[i]) t (by rw [dB_eq, List.getElem?_map, List.getElem?_eq_getElem hl]; rfl)
  rw [h] at hv
  cases hv
  exact ⟨_, List.getElem?_eq_getElem hl, tv⟩
theorem Tvs.nthB {vs : List V} {bs : List (List Rw)} {i : Nat} {x : V} (t : Tvs K H vs (bs.map fun b => .tuple (dB b))) (h : vs[i]? = some x) : ∃ c, bs[i]? = some c ∧ BV K H x c := by
  have hl : i < vs.length := (List.getElem?_eq_some_iff.mp h).1
  rw [t.len, List.length_map] at hl
  obtain ⟨v, hv, tv⟩ := Tvs.get (i := i) (d := .tuple (dB bs[i])) t (by rw [List.getElem?_map, List.getElem?_eq_getElem hl]; rfl)
  rw [h] at hv
  cases hv
  exact ⟨_, List.getElem?_eq_getElem hl, tv⟩
end
end PM
namespace K24
open PySem PySem.Spec PyProof.Rows L2 ZX PM ZR
def spRowsOf (K : PySem.W.Frag) (n : Nat) : Sp := fun vs H Q _ => ∃ (v : V) (b : List Rw), vs = [v] ∧ BV K H v b ∧ depB b < n ∧ (rowsB b).length ≤ 1000 ∧ ∀ l us H', Same H H' → H l = none → H' l = some (.lst us) → Tvs K H' us ((rowsB b).map dR) → Q (.ref l) H'
def spNamesOf (K : PySem.W.Frag) : Sp := fun vs H Q _ => ∃ (v : V) (r : Rw), vs = [v] ∧ RV K H v r ∧ (namesR r).length ≤ 4 ∧ ∀ l H', Same H H' → H l = none → H' l = some (.lst ((namesR r).map V.str)) → Q (.ref l) H'
section
variable {P : Program} {w : World} {K : PySem.W.Frag} {mg : Str → Option Value} {base : Heap}
theorem scBlocks_of : FnScope ["row"] ["row"] (defScope sBlocks_of) := ⟨rfl, rfl, rfl, by decide +kernel, rfl, by decide +kernel, by decide +kernel⟩
theorem ok_blocks_of {f : Addr} {fd : FuncData} (F : FnP K "blocks_of" sBlocks_of f fd) (T : Bi mg) : FnOk P w K mg base CX0 1 f fd ["row"] (spBlocksOf K) := by
  refine F.ok scBlocks_of (fun vs H Q E h => ?_) (fun cdv A outer s H vs Q E hr h => ?_)
  · obtain ⟨v, r, rfl, _⟩ := h
    rfl
  · obtain ⟨v, r, rfl, tv, k⟩ := h
    obtain ⟨a, tl, rfl, hS, ht⟩ := tv.rowI
    refine ⟨_, PSs.nox (pss_one (ps_ret (pe_ifExp (pt_cmpR op_in_seq (pe_ix ix_tup (pv 0) pe_int (fun _ _ => rfl)) (pe_tup (pa_cons pe_str (pa_cons pe_str pa_nil))) (by with_unfolding_all rfl)) (pe_slice sl_tup (pv 0) (po_some pe_int) po_none) (pe_tup pa_nil)))), ?_⟩
    refine ⟨_, rfl, _, _, _, _, rfl, rfl, hS, at0, by decide, fun t nt => ?_⟩
    have pt := Pt.new (o := .tup [V.str "either", V.str "again"]) nt
    have ei : inV (V.str (wordR r)) [V.str "either", V.str "again"] = !(inner r).isEmpty := by
      rw [word_inner, Bool.not_not]
      show (Str.ofString "either" == wordR r || (Str.ofString "again" == wordR r || false)) = _
      rw [Bool.or_false, BEq.comm, BEq.comm (a := Str.ofString "again")]
    refine ⟨_, _, rfl, .inr (.inl (.inl upd_same)), rfl, rfl, _, rfl, ?_⟩
    show if inV (V.str (wordR r)) [V.str "either", V.str "again"] = true then _ else _
    cases hi : (inner r).isEmpty with
    | true =>
      refine ifBF (by rw [ei, hi]; rfl) ⟨by decide, fun p np => k p [] _ ((same_new nt).trans (same_new np)) (.inl (.inl upd_same)) ?_⟩
      rw [List.isEmpty_iff.mp hi]
      exact .nil
    | false =>
      refine ifB (by rw [ei, hi]; rfl) ⟨_, rfl, 1, rfl, a, _, rfl, pt.sq hS, cut1_ne, fun p np => ?_⟩
      refine k p tl _ ((same_new nt).trans (same_new np)) ?_ ?_
      · rw [cut1]
        exact .inl (.inl upd_same)
      · rw [← inner_args r (fun e => by rw [e] at hi; cases hi)]
        exact ht.pt (pt.trans (Pt.new np))
theorem scNames_of : FnScope ["row"] ["row"] (defScope sNames_of) := ⟨rfl, rfl, rfl, by decide +kernel, rfl, by decide +kernel, by decide +kernel⟩
theorem ok_names_of {f : Addr} {fd : FuncData} (F : FnP K "names_of" sNames_of f fd) (T : Bi mg) (hA : Asking K mg) : FnOk P w K mg base CX0 2 f fd ["row"] (spNamesOf K) := by
  refine F.ok scNames_of (fun vs H Q E h => ?_) (fun cdv A outer s H vs Q E hr h => ?_)
  · obtain ⟨v, r, rfl, _⟩ := h
    rfl
  · obtain ⟨v, r, rfl, tv, hl, k⟩ := h
    obtain ⟨a, tl, rfl, hS, ht⟩ := tv.rowI
    obtain ⟨aA, mA, hAs⟩ := hA
    refine ⟨_, PSs.nox (pss_cons (ps_if (pt_cmpR op_eq (pe_ix ix_tup (pv 0) pe_int (fun _ _ => rfl)) pe_str (nomark _)) (pss_one (ps_ret (pe_lst (pa_cons (pe_ix ix_tup (pv 0) pe_int (fun _ _ => rfl)) (StX.pa_star (pe_ix ix_tup (pv 0) pe_int (fun _ _ => rfl)) pa_nil))))) pss_nil)
    (pss_cons (ps_if (pt_cmpR op_eq (pe_ix ix_tup (pv 0) pe_int (fun _ _ => rfl)) pe_str (nomark _)) (pss_one (ps_ret (pe_lst (pa_cons (pe_ix ix_tup (pv 0) pe_int (fun _ _ => rfl)) (pa_cons (pe_ix ix_tup (pv 0) pe_int (fun _ _ => rfl)) pa_nil))))) pss_nil)
    (pss_one (ps_ret (pe_ifExp (PW.pt (pw_or (pt_cmpR op_eq (pe_ix ix_tup (pv 0) pe_int (fun _ _ => rfl)) pe_str (nomark _)) (pw_or1 (pt_cmpR op_in_seq (pe_ix ix_tup (pv 0) pe_int (fun _ _ => rfl)) (pe_glob (v := .ref _) rfl mA rfl) (by with_unfolding_all rfl))))) (pe_lst (pa_cons (pe_ix ix_tup (pv 0) pe_int (fun _ _ => rfl)) pa_nil)) (pe_lst pa_nil)))))), ?_⟩
    have go : ∀ (xs : List V) (H' : Hp), Same H H' → xs = (namesR r).map V.str → xs.length ≤ sizeLine ∧ ∀ l, H' l = none → Q (.ref l) (upd H' l (.lst xs)) := fun xs H' sm e => ⟨by
      rw [e, List.length_map]
      exact Nat.le_trans hl (by decide), fun l nl => k l _ (sm.trans (same_new nl)) (sm.free nl) (by rw [e]; exact upd_same)⟩
    refine ⟨_, rfl, _, _, _, _, rfl, rfl, hS, at0, rfl, _, rfl, ?_⟩
    cases r with
    | note x o ps =>
      obtain ⟨v1, v2, v3, rfl, t1, t2, t3⟩ := ht.three
      cases t1.strI
      cases t2.strI
      obtain ⟨a3, xs3, rfl, hS3, ht3⟩ := t3.tupI
      have e3 := Tvs.strs ht3
      subst e3
      exact ifD rfl ⟨_, rfl, _, _, _, _, rfl, rfl, hS, rfl, _, rfl, _, _, _, _, rfl, rfl, hS, rfl, _, _, rfl, .inl hS3, go _ _ (fun _ _ h => h) (by show _ :: (_ ++ []) = _; rw [List.append_nil]; rfl)⟩
    | copy x y =>
      obtain ⟨v1, v2, rfl, t1, t2⟩ := ht.two
      cases t1.strI
      cases t2.strI
      exact ifDF (neS (a := "copy") (b := "note") (by decide +kernel)) ⟨_, rfl, _, _, _, _, rfl, rfl, hS, rfl, rfl, _, rfl, ifD rfl ⟨_, rfl, _, _, _, _, rfl, rfl, hS, rfl, _, rfl, _, _, _, _, rfl, rfl, hS, rfl, go _ _ (fun _ _ h => h) rfl⟩⟩
    | give x i =>
      obtain ⟨v1, v2, rfl, t1, t2⟩ := ht.two
      cases t1.strI
      exact ifDF (neS (a := "give") (b := "note") (by decide +kernel)) ⟨_, rfl, _, _, _, _, rfl, rfl, hS, rfl, rfl, _, rfl, ifDF (neS (a := "give") (b := "copy") (by decide +kernel)) ⟨_, rfl, _, _, _, _, rfl, rfl, hS, rfl, rfl, _, rfl, ifD rfl ⟨_, rfl, _, _, _, _, rfl, rfl, hS, rfl, go _ _ (fun _ _ h => h) rfl⟩⟩⟩
    | ask x =>
      obtain ⟨v1, rfl, t1⟩ := ht.one
      cases t1.strI
      exact ifDF (neS (a := "ask") (b := "note") (by decide +kernel)) ⟨_, rfl, _, _, _, _, rfl, rfl, hS, rfl, rfl, _, rfl, ifDF (neS (a := "ask") (b := "copy") (by decide +kernel)) ⟨_, rfl, _, _, _, _, rfl, rfl, hS, rfl, rfl, _, rfl, ifDF (neS (a := "ask") (b := "give") (by decide +kernel)) ⟨_, rfl, _, _, _, _, rfl, rfl, hS, rfl, aA, _, rfl, .inr (hAs _), rfl, rfl, _, rfl, ifB (show inV (V.str (Str.ofString "ask")) [V.str (Str.ofString "ask"), V.str (Str.ofString "print")] = true by decide +kernel) ⟨_, rfl, _, _, _, _, rfl, rfl, hS, rfl, go _ _ (fun _ _ h => h) rfl⟩⟩⟩⟩
    | prt x =>
      obtain ⟨v1, rfl, t1⟩ := ht.one
      cases t1.strI
      exact ifDF (neS (a := "print") (b := "note") (by decide +kernel)) ⟨_, rfl, _, _, _, _, rfl, rfl, hS, rfl, rfl, _, rfl, ifDF (neS (a := "print") (b := "copy") (by decide +kernel)) ⟨_, rfl, _, _, _, _, rfl, rfl, hS, rfl, rfl, _, rfl, ifDF (neS (a := "print") (b := "give") (by decide +kernel)) ⟨_, rfl, _, _, _, _, rfl, rfl, hS, rfl, aA, _, rfl, .inr (hAs _), rfl, rfl, _, rfl, ifB (show inV (V.str (Str.ofString "print")) [V.str (Str.ofString "ask"), V.str (Str.ofString "print")] = true by decide +kernel) ⟨_, rfl, _, _, _, _, rfl, rfl, hS, rfl, go _ _ (fun _ _ h => h) rfl⟩⟩⟩⟩
    | either b1 b2 =>
      obtain ⟨v1, v2, rfl, t1, t2⟩ := ht.two
      exact ifDF (neS (a := "either") (b := "note") (by decide +kernel)) ⟨_, rfl, _, _, _, _, rfl, rfl, hS, rfl, rfl, _, rfl, ifDF (neS (a := "either") (b := "copy") (by decide +kernel)) ⟨_, rfl, _, _, _, _, rfl, rfl, hS, rfl, rfl, _, rfl, ifDF (neS (a := "either") (b := "give") (by decide +kernel)) ⟨_, rfl, _, _, _, _, rfl, rfl, hS, rfl, aA, _, rfl, .inr (hAs _), rfl, rfl, _, rfl, ifBF (show inV (V.str (Str.ofString "either")) [V.str (Str.ofString "ask"), V.str (Str.ofString "print")] = false by decide +kernel) (go _ _ (fun _ _ h => h) rfl)⟩⟩⟩
    | again b1 =>
      obtain ⟨v1, rfl, t1⟩ := ht.one
      exact ifDF (neS (a := "again") (b := "note") (by decide +kernel)) ⟨_, rfl, _, _, _, _, rfl, rfl, hS, rfl, rfl, _, rfl, ifDF (neS (a := "again") (b := "copy") (by decide +kernel)) ⟨_, rfl, _, _, _, _, rfl, rfl, hS, rfl, rfl, _, rfl, ifDF (neS (a := "again") (b := "give") (by decide +kernel)) ⟨_, rfl, _, _, _, _, rfl, rfl, hS, rfl, aA, _, rfl, .inr (hAs _), rfl, rfl, _, rfl, ifBF (show inV (V.str (Str.ofString "again")) [V.str (Str.ofString "ask"), V.str (Str.ofString "print")] = false by decide +kernel) (go _ _ (fun _ _ h => h) rfl)⟩⟩⟩
theorem scRows_of : FnScope ["block", "found", "row", "inner"] ["block"] (defScope sRows_of) := ⟨rfl, rfl, rfl, by decide +kernel, rfl, by decide +kernel, by decide +kernel⟩
theorem ok_rows_of0 {f : Addr} {fd : FuncData} (k : Nat) : FnOk P w K mg base CX0 k f fd ["block"] (spRowsOf K 0) :=
  ⟨fun vs H Q E h => by
    obtain ⟨_, _, _, _, h, _⟩ := h
    exact absurd h (Nat.not_lt_zero _), fun A outer s H args us vs Q E hr e0 hb r h => by
    obtain ⟨_, _, _, _, h, _⟩ := h
    exact absurd h (Nat.not_lt_zero _)⟩
/-- between two turns of rows_of -/
def RowsMid (K : PySem.W.Frag) (v : V) (l : Addr) (H0 : Hp) (rs : List Rw) (y : Option V) (σ : L2.St) (H : Hp) : Prop := ∃ (us : List V) (z : Option V), σ = [some v, some (.ref l), y, z] ∧ Same H0 H ∧ H l = some (.lst us) ∧ Tvs K H us (rs.map dR)
theorem ok_rows_of1 {n : Nat} {f : Addr} {fd : FuncData} (F : FnP K "rows_of" sRows_of f fd) (T : Bi mg) (C_blocks_of : Cal P w K mg base "blocks_of" 1 ["row"] (spBlocksOf K)) (C_rows_of : Cal P w K mg base "rows_of" (n + 1) ["block"] (spRowsOf K n)) : FnOk P w K mg base CX0 (n + 2) f fd ["block"] (spRowsOf K (n + 1)) := by
  refine F.ok scRows_of (fun vs H Q E h => ?_) (fun cdv A outer s H vs Q E hr h => ?_)
  · obtain ⟨v, r, rfl, _⟩ := h
    rfl
  · obtain ⟨v, b, rfl, tv, hd, hn, k⟩ := h
    obtain ⟨a, xs, rfl, hS, ht⟩ := tv.tupI
    have hr_blocks_of := hr.mono (show 1 ≤ n + 1 by omega)
    have hr_rows_of := hr
    refine ⟨_, PSs.nox (pss_cons (ps_set (i := 1) scRows_of.nd rfl (Or.inl rfl) (pe_lst pa_nil))
    (pss_cons (ps_for PassesOwn.never rfl (pi_tup (pv 0)) (pg_name (i := 2) scRows_of.nd rfl (Or.inl rfl)) (pss_cut (ps_expr (pe_bm PySem.F.plainAttrs_list PySem.F.slot_list_append PySem.F.type_list_append mt_append (pv 1) (pa_cons (pv 2) pa_nil)))
      (pss_one (ps_for PassesOwn.never rfl (pi_tup (pcal C_blocks_of hr_blocks_of rfl (pa_cons (pv 2) pa_nil))) (pg_name (i := 3) scRows_of.nd rfl (Or.inl rfl)) (pss_one (ps_expr (pe_bm PySem.F.plainAttrs_list PySem.F.slot_list_extend PySem.F.type_list_extend mt_extend (pv 1) (pa_cons (pcal C_rows_of hr_rows_of rfl (pa_cons (pv 3) pa_nil)) pa_nil))))))))
    (pss_one (ps_ret (pv 1))))), ?_⟩
    refine ⟨by decide, fun l nl => ?_⟩
    refine ⟨_, rfl, a, rfl, ⟨xs, (Pt.new nl).sq hS⟩, ?_⟩
    refine for_tup (xs := xs) (fun i σ' H' => ∃ y, RowsMid K (.ref a) l H ((b.take i).flatMap rowsR) y σ' H') ⟨_, [], _, rfl, same_new nl, upd_same, .nil⟩ ?_ ?_ ?_
    · rintro i σ' H' _ ⟨y, us, z, rfl, sm, hl, hu⟩
      exact sm.pt.sq hS
    · rintro i x σ' H' hx ⟨y, us, z, rfl, sm, hl, hu⟩
      obtain ⟨r, hr, tr⟩ := (ht.pt sm.pt).nthR hx
      have hle : ((b.take i).flatMap rowsR ++ rowsR r).length ≤ 1000 := Nat.le_trans (fm_le1 hr) (by rw [← rowsB_eq]; exact hn)
      have hrm : r ∈ b := List.mem_of_getElem? hr
      rw [rowsR_eq, List.length_append, List.length_cons] at hle
      have hul := hu.len
      rw [List.length_map] at hul
      refine ⟨fun σ2 H2 => RowsMid K (.ref a) l H ((b.take i).flatMap rowsR ++ [r]) (some x) σ2 H2 ∧ RV K H2 x r, ?_, ?_⟩
      · refine ⟨_, rfl, .inl ⟨rfl, _, SqL.of hl⟩, _, rfl, l, us, x, rfl, rfl, hl, Nat.lt_of_le_of_lt (by omega : us.length ≤ 1000) (by decide), ?_⟩
        have pt := Pt.lst (o := .lst (us ++ [x])) hl
        refine ⟨⟨us ++ [x], _, rfl, sm.put nl, upd_same, ?_⟩, tr.pt pt⟩
        rw [List.map_append]
        exact Tvs.app (hu.pt pt) (.cons (tr.pt pt) .nil)
      · rintro σ2 H2 ⟨⟨us, z, rfl, sm, hl, hu⟩, tr⟩
        refine ⟨_, rfl, x, r, rfl, tr, fun c ys H3 s3 hc hys => ⟨c, rfl, ⟨ys, hc⟩, ?_⟩⟩
        refine for_tup (xs := ys) (fun j σ' H' => RowsMid K (.ref a) l H ((b.take i).flatMap rowsR ++ r :: ((inner r).take j).flatMap rowsB) (some x) σ' H' ∧ Pt H3 H') ⟨⟨us, _, rfl, sm.trans s3, s3 _ _ hl, hu.pt s3.pt⟩, Pt.refl _⟩ ?_ ?_ ?_
        · rintro j σ' H' _ ⟨_, p3⟩
          exact p3.sq hc
        · rintro j y σ' H' hy ⟨⟨us, z, rfl, sm, hl, hu⟩, p3⟩
          obtain ⟨cb, hcb, tc⟩ := (hys.pt p3).nthB hy
          have hle2 := fm_le1 (f := rowsB) hcb
          rw [List.length_append] at hle2
          have hcm : cb ∈ inner r := List.mem_of_getElem? hcb
          have hdp : depB cb < n := by
            have := dep_inner hcm
            have := depB_mem hrm
            omega
          have hul := hu.len
          rw [List.length_map, List.length_append, List.length_cons] at hul
          refine ⟨_, rfl, .inl ⟨rfl, _, SqL.of hl⟩, _, rfl, y, cb, rfl, tc, hdp, by omega, fun l2 zs H4 s4 n4 h4 t4 => ?_⟩
          have hzl := t4.len
          rw [List.length_map] at hzl
          refine ⟨l, l2, us, zs, rfl, rfl, s4 _ _ hl, h4, Nat.le_trans (by omega : us.length + zs.length ≤ 1000) (by decide), ?_⟩
          have pt := Pt.lst (o := .lst (us ++ zs)) (s4 _ _ hl)
          refine ⟨⟨us ++ zs, _, rfl, (sm.trans s4).put nl, upd_same, ?_⟩, (p3.trans s4.pt).trans pt⟩
          rw [fm_take hcb, ← List.cons_append, ← List.append_assoc, List.map_append]
          exact Tvs.app ((hu.pt s4.pt).pt pt) (t4.pt pt)
        · rintro σ' H' ⟨⟨us, z, rfl, sm, hl, hu⟩, _⟩
          have e : ys.length = (inner r).length := by rw [hys.len, List.length_map]
          refine ⟨_, us, z, rfl, sm, hl, ?_⟩
          rw [fm_take hr, rowsR_eq]
          rw [e, List.take_length] at hu
          exact hu
    · rintro σ' H' ⟨y, us, z, rfl, sm, hl, hu⟩
      have e : xs.length = b.length := by rw [ht.len, dB_eq, List.length_map]
      rw [e, List.take_length, ← rowsB_eq] at hu
      exact ⟨_, rfl, k l us H' sm nl hl hu⟩
end
end K24
set_option Elab.async false
set_option linter.all false
set_option maxRecDepth 100000
set_option maxHeartbeats 4000000
namespace PM
open PySem PySem.Spec PyProof.Rows L2 ZX
/-! ### rows ahead, with their depth -/
def dP (e : Nat × Rw) : PyData := .tuple [.int e.1, dR e.2]
def tot (st : List (Nat × Rw)) : Nat := (st.map fun e => (rowsR e.2).length).sum
def push (d : Nat) (b : List Rw) : List (Nat × Rw) := b.reverse.map fun r => (d, r)
theorem tot_app (a b : List (Nat × Rw)) : tot (a ++ b) = tot a + tot b := by simp [tot]
theorem tot_push (d : Nat) : ∀ b : List Rw, tot (push d b) = (rowsB b).length
  | [] => rfl
  | r :: b => by
    have h := tot_push d b
    have e : push d (r :: b) = push d b ++ [(d, r)] := by simp [push]
    rw [e, tot_app, h, rowsB, List.length_append]
    show _ + ((rowsR r).length + 0) = _
    omega
theorem len_tot : ∀ st : List (Nat × Rw), st.length ≤ tot st
  | [] => Nat.le_refl _
  | e :: st => by
    have h := len_tot st
    have p := rowsR_pos e.2
    show st.length + 1 ≤ (rowsR e.2).length + tot st
    omega
theorem tot_fm (d : Nat) (L : List (List Rw)) : tot (L.flatMap (push d)) = (L.flatMap rowsB).length := by
  induction L with
  | nil => rfl
  | cons c L ih => rw [List.flatMap_cons, tot_app, tot_push, ih, List.flatMap_cons, List.length_append]
theorem tot_rev (d : Nat) (r : Rw) : tot ((inner r).reverse.flatMap (push d)) + 1 = (rowsR r).length := by
  rw [tot_fm, rowsR_eq, List.length_cons]
  cases r <;> simp [inner]
  omega
def okS (st : List (Nat × Rw)) : Prop := ∀ e ∈ st, okR e.1 e.2
theorem okB_mem {d : Nat} {r : Rw} : ∀ {b : List Rw}, okB d b → r ∈ b → okR d r
  | _ :: _, h, hm => by
    rcases List.mem_cons.mp hm with e | hm
    · exact e ▸ h.1
    · exact okB_mem h.2 hm
theorem ok_inner {d : Nat} {r : Rw} {c : List Rw} (h : okR d r) (hc : c ∈ inner r) : okB (d + 1) c := by
  cases r with
  | either a b =>
    obtain ⟨_, _, _, h1, h2⟩ := h
    simp [inner] at hc
    rcases hc with rfl | rfl
    · exact h1
    · exact h2
  | again a =>
    obtain ⟨_, _, h1⟩ := h
    simp [inner] at hc
    subst hc
    exact h1
  | _ => simp [inner] at hc
theorem okS_push {d : Nat} {b : List Rw} (h : okB d b) : okS (push d b) := fun e he => by
  obtain ⟨r, hr, rfl⟩ := List.mem_map.mp he
  exact okB_mem h (List.mem_reverse.mp hr)
theorem okS_app {a b : List (Nat × Rw)} (h : okS a) (k : okS b) : okS (a ++ b) := fun e he => (List.mem_append.mp he).elim (h e) (k e)
theorem snoc_or {α : Type} (l : List α) : l = [] ∨ ∃ m x, l = m ++ [x] := by
  rcases h : l.reverse with _ | ⟨x, m⟩
  · exact .inl (List.reverse_eq_nil_iff.mp h)
  · refine .inr ⟨m.reverse, x, ?_⟩
    rw [← List.reverse_cons, ← h, List.reverse_reverse]
end PM
namespace K24
open PySem PySem.Spec PyProof.Rows L2 ZX PM ZR
def spFormless (K : PySem.W.Frag) : Sp := fun vs H Q _ => ∃ (v : V) (b : List Rw) (mn : Int), vs = [v, .int mn] ∧ BV K H v b ∧ okB 1 b ∧ (rowsB b).length ≤ 1000 ∧ ∀ H', Same H H' → Q .non H'
/-- between two turns -/
def ForMid (K : PySem.W.Frag) (mn : Int) (v : V) (l : Addr) (H0 : Hp) (m : Nat) (σ : L2.St) (H : Hp) : Prop := ∃ (us : List V) (st : List (Nat × Rw)) (n : Int) (y1 y4 y5 : Option V), σ = [some v, some (.int mn), y1, some (.ref l), some (.int n), y4, y5, none] ∧
  Same H0 H ∧ H l = some (.lst us) ∧ Tvs K H us (st.map dP) ∧ okS st ∧ tot st = m ∧ m ≤ 1000
section
variable {P : Program} {w : World} {K : PySem.W.Frag} {mg : Str → Option Value} {base : Heap}
theorem scFormless_place : FnScope ["block", "many", "row", "ahead", "place", "deep", "inner", "each"] ["block", "many"] (defScope sFormless_place) := ⟨rfl, rfl, rfl, by decide +kernel, rfl, by decide +kernel, by decide +kernel⟩
theorem ok_formless {f : Addr} {fd : FuncData} (F : FnP K "formless_place" sFormless_place f fd) (T : Bi mg) (C_is_row : Cal P w K mg base "is_row" 3 ["deep", "thing", "many"] (spIsRow K)) (C_blocks_of : Cal P w K mg base "blocks_of" 1 ["row"] (spBlocksOf K)) : FnOk P w K mg base CX0 4 f fd ["block", "many"] (spFormless K) := by
  refine F.ok scFormless_place (fun vs H Q E h => ?_) (fun cdv A outer s H vs Q E hr h => ?_)
  · obtain ⟨v, r, mn, rfl, _⟩ := h
    rfl
  · obtain ⟨v, b, mn, rfl, tv, ok, hn, k⟩ := h
    obtain ⟨a, xs, rfl, hS, ht⟩ := tv.tupI
    have hr_blocks_of := hr.mono (show 1 ≤ 3 by decide)
    have hr_is_row := hr
    refine ⟨_, PSs.nox (pss_cons (ps_setLcS (i := 3) (own := [("row", 2)]) (g := gName 2) (tt := tYes) rfl scFormless_place.nd rfl rfl (sw_true rfl rfl rfl (by decide +kernel)) (pi_tup (ZR.pe_revT (pv 0))) (blkOk_by (N := ["block", "many", "row", "ahead", "place", "deep", "inner", "each"]) (sc := defScope sFormless_place) (by decide +kernel)) (fun _ _ _ _ _ => (pg_name (i := 2) scFormless_place.nd rfl (Or.inl rfl))) (fun _ _ _ _ _ => pts_nil) (fun _ _ _ _ _ => (pe_tup (pa_cons pe_int (pa_cons (pv 2) pa_nil)))))
    (pss_cons (ps_set (i := 4) scFormless_place.nd rfl (Or.inl rfl) pe_int)
    (pss_cons (ps_while PassesOwn.never (pt_truth (pv 3) (by intro _; rfl)) (pss_cut (ps_asg (pe_bm0 PySem.F.plainAttrs_list PySem.F.slot_list_pop PySem.F.type_list_pop mt_pop (pv 3)) (pg_tup rfl (pgs_cons (pg_name (i := 5) scFormless_place.nd rfl (Or.inr rfl)) (pgs_cons (pg_name (i := 2) scFormless_place.nd rfl (Or.inl rfl)) pgs_nil))))
      (pss_cons (ps_if (pt_not (pt_val (pcal C_is_row hr_is_row rfl (pa_cons (pv 5) (pa_cons (pv 2) (pa_cons (pv 1) pa_nil)))))) (pss_one (ps_ret (pv 4))) pss_nil)
      (pss_cons (ps_for PassesOwn.never rfl (pi_tup (ZR.pe_revT (pcal C_blocks_of hr_blocks_of rfl (pa_cons (pv 2) pa_nil)))) (pg_name (i := 6) scFormless_place.nd rfl (Or.inl rfl)) (pss_one (ps_expr (pe_bm PySem.F.plainAttrs_list PySem.F.slot_list_extend PySem.F.type_list_extend mt_extend (pv 3) (pa_cons (pe_lcS (own := [("each", 7)]) (g := gName 7) (tt := tYes) (by rfl) scFormless_place.nd (pi_tup (ZR.pe_revT (pv 6))) (blkOk_by (N := ["block", "many", "row", "ahead", "place", "deep", "inner", "each"]) (sc := defScope sFormless_place) (by decide +kernel)) (fun _ _ _ _ _ => (pg_name (i := 7) scFormless_place.nd rfl (Or.inl rfl))) (fun _ _ _ _ _ => pts_nil) (fun _ _ _ _ _ => (pe_tup (pa_cons (pe_op op_add (pv 5) pe_int) (pa_cons (pv 7) pa_nil))))) pa_nil)))))
      (pss_one (ps_aug (i := 4) scFormless_place.nd rfl (Or.inl rfl) pe_int ip_add))))))
    (pss_one (ps_ret pe_non))))), ?_⟩
    refine lc_into ?_
    refine ⟨_, rfl, a, xs, rfl, hS, fun q nq => ⟨q, rfl, ⟨_, .inl (.inl upd_same)⟩, ?_⟩⟩
    have hx : xs.reverse.length = b.length := by rw [List.length_reverse, ht.len, dB_eq, List.length_map]
    have hbl : b.length ≤ 1000 := by
      have := len_tot (push 1 b)
      rw [tot_push] at this
      have e : (push 1 b).length = b.length := by simp [push]
      omega
    refine lc_overA (p := none) (as := push 1 b) (Rel := fun H e y => Tv K H y (dP e)) it_tup ?_ (fun c y H H' pt h => h.pt pt) (fun _ h => nomatch h) ?_ (fun H' _ pt => pt.sq (.inl (.inl upd_same))) ?_ ?_
    · rw [hx]
      simp [push]
    · rw [hx]
      exact Nat.lt_of_le_of_lt hbl (by decide)
    · intro i x c hx hc H' kq pt R k
      have hrv := (ht.pt ((Pt.new (o := .tup xs.reverse) nq).trans pt)).rev
      rw [dB_eq, ← List.map_reverse, ← dB_eq] at hrv
      obtain ⟨r, hr, tr⟩ := hrv.nthR hx
      have ec : c = (1, r) := by
        have := hc
        rw [push, List.getElem?_map, hr] at this
        exact (Option.some.inj this).symm
      subst ec
      refine ⟨rfl, _, rfl, (by show 2 ≤ sizeLine; decide), fun t nt => k _ _ (Same.kq (same_new nt)) (Pt.new nt) (.tup (.inl (.inl upd_same)) (.cons (.int _) (.cons (tr.pt (Pt.new nt)) .nil)))⟩
    · intro l us H' kq _ nl hl all
      have hl0 : H l = none := (same_new nq).free nl
      refine ⟨fun m σ' H' => ForMid K mn (.ref a) l H m σ' H', ⟨_, us, push 1 b, 0, none, none, none, rfl, (same_new nq).trans kq.same, hl, Tvs.ofAll2 all, okS_push ok, rfl, by rw [tot_push]; exact hn⟩, ?_⟩
      rintro m σ' H' ⟨us, st, n, y1, y4, y5, rfl, sm, hl, hu, hok, rfl, hm⟩
      have hul := hu.len
      rw [List.length_map] at hul
      rcases snoc_or st with rfl | ⟨st', ⟨d, r⟩, rfl⟩
      · cases hu
        exact ⟨_, rfl, false, .inl ⟨_, SqL.of hl, rfl⟩, k H' sm⟩
      · rw [List.map_append] at hu
        obtain ⟨us', u, rfl, hu', tu⟩ := hu.snocI
        refine ⟨_, rfl, true, .inl ⟨_, SqL.of hl, by simp⟩, fun σ2 H2 => ∃ m', m' < tot (st' ++ [(d, r)]) ∧ ForMid K mn (.ref a) l H m' σ2 H2, fun _ _ h => h, ?_⟩
        obtain ⟨ta, tx, rfl, htS, htt⟩ := tu.tupI
        obtain ⟨v1, v2, rfl, t1, t2⟩ := htt.two
        cases t1.intI
        have okr : okR d r := hok (d, r) (List.mem_append_right _ List.mem_cons_self)
        have okst : okS st' := fun e he => hok e (List.mem_append_left _ he)
        have htot : tot (st' ++ [(d, r)]) = tot st' + (rowsR r).length := by
          rw [tot_app]
          show _ + ((rowsR r).length + 0) = _
          omega
        have hrev := tot_rev (d + 1) r
        have hat : (us' ++ [V.ref ta])[(us' ++ [V.ref ta]).length - 1]? = some (V.ref ta) := by simp
        have hdl : (us' ++ [V.ref ta]).dropLast = us' := by simp
        have pt0 := Pt.lst (o := .lst us') hl
        refine ⟨fun σ2 H2 => ∃ y5, σ2 = [some (.ref a), some (.int mn), some v2, some (.ref l), some (.int n), some (.int d), y5, none] ∧ Same H H2 ∧ H2 l = some (.lst us') ∧ Tvs K H2 us' (st'.map dP) ∧ RV K H2 v2 r, ?_, ?_⟩
        · refine ⟨_, rfl, .inl ⟨rfl, _, SqL.of hl⟩, l, _, _, rfl, rfl, hl, hat, ?_⟩
          rw [hdl]
          refine ⟨ta, _, rfl, pt0.sq htS, rfl, _, _, rfl, _, _, rfl, ?_⟩
          exact ⟨rfl, _, rfl, sm.put hl0, upd_same, hu'.pt pt0, t2.pt pt0⟩
        · rintro σ2 H2 ⟨y5, rfl, sm, hl, hu, t2⟩
          refine ⟨_, rfl, _, rfl, _, rfl, d, v2, r, mn, rfl, t2, okr, fun H3 s3 => ⟨_, rfl, _, rfl, v2, r, rfl, t2.pt s3.pt, fun c ys H4 s4 hc hys => ⟨c, ys, rfl, hc, fun q2 nq2 => ⟨q2, rfl, ⟨_, .inl (.inl upd_same)⟩, ?_⟩⟩⟩⟩
          have pt4 : Pt H2 (upd H4 q2 (.tup ys.reverse)) := (s3.pt.trans s4.pt).trans (Pt.new nq2)
          have sm4 : Same H (upd H4 q2 (.tup ys.reverse)) := ((sm.trans s3).trans s4).trans (same_new nq2)
          refine for_tup (xs := ys.reverse) (fun j σ' H' => ∃ us y5, σ' = [some (.ref a), some (.int mn), some v2, some (.ref l), some (.int n), some (.int d), y5, none] ∧ Same H H' ∧ H' l = some (.lst us) ∧ Tvs K H' us ((st' ++ ((inner r).reverse.take j).flatMap (push (d + 1))).map dP) ∧ Pt (upd H4 q2 (.tup ys.reverse)) H')
            ⟨us', y5, rfl, sm4, same_new nq2 _ _ (s4 _ _ (s3 _ _ hl)), ?_, Pt.refl _⟩ ?_ ?_ ?_
          · rw [List.take_zero, List.flatMap_nil, List.append_nil]
            exact hu.pt pt4
          · rintro j σ' H' _ ⟨_, _, _, _, _, _, p5⟩
            exact p5.sq (.inl (.inl upd_same))
          · rintro j y σ' H' hy ⟨us, y5, rfl, sm5, hl5, hu5, p5⟩
            have hys5 := (hys.pt ((Pt.new (o := .tup ys.reverse) nq2).trans p5)).rev
            rw [← List.map_reverse] at hys5
            obtain ⟨cb, hcb, tc⟩ := hys5.nthB hy
            have hcm : cb ∈ inner r := List.mem_reverse.mp (List.mem_of_getElem? hcb)
            have hle := fm_le1 (f := push (d + 1)) hcb
            have hlt := len_tot ((inner r).reverse.flatMap (push (d + 1)))
            have hls := len_tot st'
            rw [List.length_append] at hle
            have hpl : (push (d + 1) cb).length = cb.length := by simp [push]
            have hul := hu5.len
            rw [List.length_map, List.length_append] at hul
            obtain ⟨ca, cx, rfl, hcS, hct⟩ := tc.tupI
            have hcl : cx.reverse.length = cb.length := by rw [List.length_reverse, hct.len, dB_eq, List.length_map]
            refine ⟨_, rfl, .inl ⟨rfl, _, SqL.of hl5⟩, ?_⟩
            refine lc_into ?_
            refine ⟨_, rfl, ca, cx, rfl, hcS, fun q3 nq3 => ⟨q3, rfl, ⟨_, .inl (.inl upd_same)⟩, ?_⟩⟩
            refine lc_overA (p := none) (as := push (d + 1) cb) (Rel := fun H e y => Tv K H y (dP e)) it_tup ?_ (fun c y H H' pt h => h.pt pt) (fun _ h => nomatch h) ?_ (fun H' _ pt => pt.sq (.inl (.inl upd_same))) ?_ ?_
            · rw [hcl, hpl]
            · rw [hcl]
              exact Nat.lt_of_le_of_lt (by omega : cb.length ≤ 1000) (by decide)
            · intro i x c hx hc H6 kq pt R k
              have hrv := (hct.pt ((Pt.new (o := .tup cx.reverse) nq3).trans pt)).rev
              rw [dB_eq, ← List.map_reverse, ← dB_eq] at hrv
              obtain ⟨r6, hr6, tr6⟩ := hrv.nthR hx
              have ec : c = (d + 1, r6) := by
                have := hc
                rw [push, List.getElem?_map, hr6] at this
                exact (Option.some.inj this).symm
              subst ec
              refine ⟨rfl, _, rfl, _, _, rfl, rfl, _, rfl, (by show 2 ≤ sizeLine; decide), fun t nt => k _ _ (Same.kq (same_new nt)) (Pt.new nt) (.tup (.inl (.inl upd_same)) (.cons (.int _) (.cons (tr6.pt (Pt.new nt)) .nil)))⟩
            · intro l6 zs H6 kq pt6 nl6 hl6 all6
              have hzl := all6.len
              rw [hpl] at hzl
              have sm6 : Same H' H6 := (same_new nq3).trans kq.same
              refine ⟨l, l6, us, zs, rfl, rfl, sm6 _ _ hl5, hl6, Nat.le_trans (by omega : us.length + zs.length ≤ 1000) (by decide), ?_⟩
              have ptl := Pt.lst (o := .lst (us ++ zs)) (sm6 _ _ hl5)
              refine ⟨us ++ zs, _, rfl, (sm5.trans sm6).put hl0, upd_same, ?_, (p5.trans sm6.pt).trans ptl⟩
              rw [fm_take hcb, ← List.append_assoc, List.map_append]
              exact Tvs.app ((hu5.pt sm6.pt).pt ptl) ((Tvs.ofAll2 all6).pt ptl)
          · rintro σ' H' ⟨us, y5, rfl, sm5, hl5, hu5, p5⟩
            have e : ys.reverse.length = (inner r).reverse.length := by rw [List.length_reverse, hys.len, List.length_map, List.length_reverse]
            rw [e, List.take_length] at hu5
            refine ⟨_, rfl, ?_⟩
            have hin : okS ((inner r).reverse.flatMap (push (d + 1))) := fun e he => by
              obtain ⟨c, hc, he⟩ := List.mem_flatMap.mp he
              exact okS_push (ok_inner okr (List.mem_reverse.mp hc)) e he
            have := tot_app st' ((inner r).reverse.flatMap (push (d + 1)))
            refine ⟨_, _, rfl, rfl, tot (st' ++ (inner r).reverse.flatMap (push (d + 1))), by omega, us, _, _, _, _, _, rfl, sm5, hl5, hu5, okS_app okst hin, rfl, by omega⟩
end
end K24
set_option Elab.async false
set_option linter.all false
set_option maxRecDepth 100000
set_option maxHeartbeats 4000000
/-! Rules of my own: sorted(..) of a set of texts. -/
namespace ZR
open PySem PySem.Spec PyProof.Rows L2
section
variable {P : Program} {w : World} {A : Around} {E : Value → Shared → Prop} {s : Shared} {a : Addr} {ks : List Str}
theorem sort_setS {Q : Value → Shared → Prop} (R : SetS w s.heap a ks) (hh : A.handled = none)
    (q : ∀ s' p (out : Array Value) (c : Nat) (ys : List Str), (∀ b o, s.heap.get? b = some o → s'.heap.get? b = some o) → s'.gens = s.gens ∧ s'.os = s.os → s.heap.objs.size ≤ p ∧ s'.heap.get? p = some (seqObj "list" out c) →
      StrsAre out.toList ys → ys.Perm ks ∧ sortedS ys = true → Q (.ref p) s') :
    wpAny (model P w) A (call (.builtin "sorted") [.ref a]) Q E s := by
  obtain ⟨o, es, ep, t, ho, hex, hd, T⟩ := R
  have few := T.sm
  refine Calls.call_function_entry kind_sorted plain_sorted entry_sorted (args_sorted1 _) ?_; unfold Builtin.«sorted»
  refine wpAny_bind (m := checkCount "sorted" 1 1 _) (wpAny_pure (wpAny_bind (collect_set (A := A.in1) hh ⟨o, ho, hex.1, hd⟩ T.ft few T.ri T.ld fun s1 vs old hz g1 o1 pm => ?_)))
  have hvs : ∀ v ∈ vs, ∃ x u, v = Value.str x u := fun v hv => by
    obtain ⟨e, he, rfl⟩ := List.mem_map.mp (pm.mem_iff.mp hv)
    obtain ⟨x, u, rfl⟩ := T.gd e he
    exact ⟨x, u, rfl⟩
  have hS := strsAre_map vs hvs
  have hk : (vs.map strOf).Perm ks := by
    refine List.Perm.trans ((pm.map strOf).trans ?_) T.pm
    rw [List.map_map]
    refine List.Perm.of_eq (List.map_congr_left fun e he => ?_)
    obtain ⟨x, u, rfl⟩ := T.gd e he
    rfl
  have hL : vs.length ≤ sizeLine := by
    rw [pm.length_eq, List.length_map, Array.length_toList]
    exact Nat.le_of_lt (Nat.lt_trans few (by decide))
  refine wpAny_bind (wpAny_newList ?_ hL)
  have hl : (s1.heap.push (seqObj "list" vs.toArray 0)).get? s1.heap.objs.size = some (seqObj "list" vs.toArray 0) := Heap.get?_push_size _ rfl
  refine wpAny_bind (wpAny_holding (wpAny_call_entry slot_list_sort ⟨_, hl, rfl⟩ entry_list_sort (list_sort_treeKAny strKind_oneLt hl hS.keysOf (fun u v rest e => keyKind_strs (by rw [← e]; exact hS)) hL fun st' hp hs => ⟨_, rfl, ?_⟩) (args_list_sort _)))
  obtain ⟨ys, y1, y2, y3⟩ := sorted_out_str hS hp hs
  obtain ⟨c, hc⟩ := sortedHeap_at (vs := vs) (out := (arrOf st').map (·.2)) hl
  refine wpAny_pure ⟨_, rfl, q _ s1.heap.objs.size _ c ys (fun b u e => ?_) ⟨g1, o1⟩ ⟨hz, hc⟩ y1 ⟨y2.trans hk, y3⟩⟩
  have e1 := old b u e
  have lt := Heap.lt_size e1
  refine (sortedHeap_old (Nat.ne_of_lt lt) ?_).trans (Heap.get?_push_of_some _ e1)
  exact (size_push' s1.heap (seqObj "list" vs.toArray 0)).symm ▸ Nat.lt_succ_of_lt lt
end
/-- sorted(s), s a set of texts -/
def rSortTx (w : World) : List V → Hp → VK → Prop := fun vs H Q => ∃ (a : Addr) (ks : List Str), vs = [V.ref a] ∧ H a = some (SetTO w a ks) ∧ ks.length ≤ 4096 ∧ ∀ (ys : List Str) (p : Addr), ys.Perm ks → sortedS ys = true → H p = none → Q (.ref p) (upd H p (.lst (ys.map V.str)))
theorem call_sortTx {X : Cx} (hc : X.calm = true) : CallR X (.builtin "sorted") (rSortTx X.w) := by
  intro pins s σ H vs us Q I r h
  obtain ⟨a, ks, rfl, ha, few, q⟩ := h
  rw [Vals.ref1 r]
  refine sort_setS (setTO_get I ha) (I.ok.hd hc) fun s' p out c ys old go hp hs hy => ?_
  obtain ⟨g, o⟩ := go
  have hn : H p = none := I.hok.fresh hp.1
  have hl : (ys.map V.str).length ≤ sizeLine := by
    rw [List.length_map, hy.1.length_eq]
    exact Nat.le_trans few (by decide)
  have J : Inv X pins σ (upd H p (.lst (ys.map V.str))) { s with heap := s'.heap, gens := s'.gens, drawn := s'.drawn, toks := s'.toks } :=
    I.call (ch := []) (Un.laid old hp.1 hn) (I.hok.laid old hp.1 ⟨hl, out.toList, c, vals_of_strs hs, hp.2⟩) (by rw [g]; exact I.bare) fun _ z => nomatch z
  obtain ⟨h2, g2, d2, t2, o2⟩ := s'
  obtain ⟨h1, g1, d1, t1, o1⟩ := s
  dsimp only at g o
  subst g o
  exact ⟨.ref p, _, J, rfl, q ys p hy.1 hy.2 hn⟩
end ZR
set_option Elab.async false
set_option linter.all false
set_option maxRecDepth 100000
set_option maxHeartbeats 4000000
/-! Lots: ascending tuples of unlike texts. Sets of texts, by what was put in. -/
namespace PM
open PySem PySem.Spec PyProof.Rows L2 ZX ZR
def leS (a b : Str) : Prop := a.cps.toList ≤ b.cps.toList
theorem leS_of {a b : Str} (h : (!ltCps b.cps.toList a.cps.toList) = true) : leS a b := by
  rw [ltCps_eq, Bool.not_eq_true', decide_eq_false_iff_not] at h
  exact List.not_lt.mp h
theorem leS_trans {a b c : Str} (h : leS a b) (k : leS b c) : leS a c := List.le_trans h k
theorem leS_anti {a b : Str} (h : leS a b) (k : leS b a) : a = b := by
  have e := List.le_antisymm h k
  obtain ⟨⟨x⟩⟩ := a
  obtain ⟨⟨y⟩⟩ := b
  simp only at e
  rw [e]
theorem rising_pw : ∀ (ss : List Str) (p : Str), risingS p ss = true → (p :: ss).Pairwise leS
  | [], p, _ => List.pairwise_singleton _ _
  | x :: r, p, h => by
    obtain ⟨h1, h2⟩ := Bool.and_eq_true_iff.mp (show (!ltCps x.cps.toList p.cps.toList && risingS x r) = true from h)
    have ih := rising_pw r x h2
    refine List.pairwise_cons.mpr ⟨fun z hz => ?_, ih⟩
    rcases List.mem_cons.mp hz with e | hz
    · rw [e]
      exact leS_of h1
    · exact leS_trans (leS_of h1) ((List.pairwise_cons.mp ih).1 z hz)
theorem sorted_pw {ss : List Str} (h : sortedS ss = true) : ss.Pairwise leS := by
  cases ss with
  | nil => exact List.Pairwise.nil
  | cons x r => exact rising_pw r x h
/-- ys: the texts of L, ascending, each once -/
structure IsLot (ys L : List Str) : Prop where
  so : sortedS ys = true
  nd : ys.Nodup
  me : ∀ x, x ∈ ys ↔ x ∈ L
theorem IsLot.uniq {ys zs L M : List Str} (h : IsLot ys L) (k : IsLot zs M) (e : ∀ x, x ∈ L ↔ x ∈ M) : ys = zs :=
  List.Perm.eq_of_pairwise (fun _ _ _ _ => leS_anti) (sorted_pw h.so) (sorted_pw k.so) ((List.perm_ext_iff_of_nodup h.nd k.nd).mpr fun x => (h.me x).trans ((e x).trans (k.me x).symm))
theorem IsLot.le {ys L W : List Str} (h : IsLot ys L) (s : ∀ x ∈ L, x ∈ W) : ys.length ≤ W.length := List.Nodup.length_le_of_subset h.nd fun x hx => s x ((h.me x).mp hx)
/-- texts put into a set, one behind another -/
def insAll (L : List Str) : List Str := L.foldl (fun ks x => ins x ks) []
theorem ins_mem {x y : Str} {ks : List Str} : y ∈ ins x ks ↔ y ∈ ks ∨ y = x := by
  unfold ins
  split
  · rename_i h
    exact ⟨.inl, fun q => q.elim id fun e => e ▸ h⟩
  · rw [List.mem_append, List.mem_singleton]
theorem ins_nodup {x : Str} {ks : List Str} (h : ks.Nodup) : (ins x ks).Nodup := by
  unfold ins
  split
  · exact h
  · rename_i hn
    refine List.nodup_append.mpr ⟨h, List.nodup_cons.mpr ⟨(fun z => nomatch z), List.nodup_nil⟩, fun a ha b hb e => ?_⟩
    rw [List.mem_singleton] at hb
    subst hb e
    exact hn ha
theorem ins_len {x : Str} {ks : List Str} : (ins x ks).length ≤ ks.length + 1 := by
  unfold ins
  split
  · exact Nat.le_succ _
  · simp
theorem insAll_snoc (L : List Str) (x : Str) : insAll (L ++ [x]) = ins x (insAll L) := by simp [insAll]
theorem insAll_ok (L : List Str) : (insAll L).Nodup ∧ (∀ x, x ∈ insAll L ↔ x ∈ L) ∧ (insAll L).length ≤ L.length := by
  suffices h : ∀ (n : Nat) (L : List Str), L.length = n → (insAll L).Nodup ∧ (∀ x, x ∈ insAll L ↔ x ∈ L) ∧ (insAll L).length ≤ L.length from h _ L rfl
  intro n
  induction n with
  | zero =>
    intro L hL
    rw [List.length_eq_zero_iff.mp hL]
    exact ⟨List.nodup_nil, fun _ => Iff.rfl, Nat.le_refl _⟩
  | succ n ih =>
    intro L hL
    rcases snoc_or L with rfl | ⟨M, y, rfl⟩
    · cases hL
    · rw [List.length_append] at hL
      obtain ⟨h1, h2, h3⟩ := ih M (by simpa using hL)
      rw [insAll_snoc]
      refine ⟨ins_nodup h1, fun x => ?_, ?_⟩
      · rw [ins_mem, h2, List.mem_append, List.mem_singleton]
      · have := ins_len (x := y) (ks := insAll M)
        rw [List.length_append]
        show _ ≤ M.length + 1
        omega
theorem lot_of {L ys : List Str} (p : ys.Perm (insAll L)) (h : sortedS ys = true) : IsLot ys L :=
  ⟨h, p.nodup_iff.mpr (insAll_ok L).1, fun x => p.mem_iff.trans ((insAll_ok L).2.1 x)⟩
theorem Pt.ext {H : Hp} {w : World} {D : Addr} {ks : List Str} {o : HO} (h : H D = some (SetTO w D ks)) : Pt H (upd H D o) := fun b ys hb => by
  have ne : b ≠ D := fun e => by
    subst e
    rcases hb with hb | ⟨o, hb⟩ <;> rw [h] at hb <;> cases hb
  exact hb.elim (fun h => .inl (by rw [upd_ne ne]; exact h)) fun ⟨o, h⟩ => .inr ⟨o, by rw [upd_ne ne]; exact h⟩
section
variable {w : World} {α : Type} {as : List α} {fs : α → List Str} {J : It} {zs : List V} {St : Hp → Prop} {g g1 : TG} {te : TE} {wi1 : TI} {vs vs1 : List Nat} {σ : L2.St} {H1 : Hp} {Q : VK}
theorem sc2_into {wi : TI} {H : Hp} (h : wi σ H fun J H1 => tSc2S w (fun _ _ R => R J H1) g wi1 g1 te vs vs1 σ H1 Q) : tSc2S w wi g wi1 g1 te vs vs1 σ H Q := by
  rw [sc2S] at *
  exact h
/-- {x for t in i for t1 in i1}: each thing gives a list of texts -/
theorem sc2_over {K : PySem.W.Frag} {i i1 : Nat} (O : IterOf J zs St) (hz : as.length = zs.length) (hlen : (as.flatMap fs).length + 1 < scanBound) (st : ∀ H', Same H1 H' → Pt H1 H' → St H')
    (hw : ∀ x, wipe ((wipe σ vs).set i (some x)) vs = wipe σ vs) (hw1 : ∀ x z, wipe ((wipe ((wipe σ vs).set i (some x)) vs1).set i1 (some z)) vs1 = wipe ((wipe σ vs).set i (some x)) vs1)
    (step : ∀ (k : Nat) x c, zs[k]? = some x → as[k]? = some c → ∀ H', Same H1 H' → Pt H1 H' → ∀ R : It → Hp → Prop, (∀ a H4, Same H' H4 → H4 a = some (.lst ((fs c).map V.str)) → R (Itl K a) H4) → wi1 ((wipe σ vs).set i (some x)) H' R)
    (elt : ∀ x z H (R : VK), R (.str z) H → te ((wipe ((wipe σ vs).set i (some x)) vs1).set i1 (some (.str z))) H R)
    (fin : ∀ D H', Same H1 H' → Pt H1 H' → H1 D = none → H' D = some (SetTO w D (insAll (as.flatMap fs))) → Q (.ref D) H') :
    tSc2S w (fun _ _ R => R J H1) (gName i) wi1 (gName i1) te vs vs1 σ H1 Q := by
  rw [sc2S]
  intro D hD
  refine ⟨fun k m H => m = zs.length - k ∧ k ≤ zs.length ∧ Same H1 H ∧ Pt H1 H ∧ H D = some (SetTO w D (insAll ((as.take k).flatMap fs))), ⟨zs.length, rfl, Nat.zero_le _, same_new hD, Pt.new hD, by rw [List.take_zero]; exact upd_same⟩, ?_⟩
  rintro k m H ⟨rfl, hk, sm, pt, hks⟩
  have hst := st H sm pt
  by_cases hlt : k < zs.length
  · refine .inr ⟨O.go k H hst hlt, fun H' => k + 1 ≤ zs.length ∧ Same H1 H' ∧ Pt H1 H' ∧ H' D = some (SetTO w D (insAll ((as.take (k + 1)).flatMap fs))), fun H' h => ⟨zs.length - (k + 1), by omega, rfl, h⟩, fun x H' y => ?_⟩
    obtain ⟨rfl, hx⟩ := O.yld k H x H' hst hlt y
    have hka : k < as.length := by omega
    have hc : as[k]? = some as[k] := List.getElem?_eq_getElem hka
    have hle := fm_le1 (f := fs) hc
    refine ⟨hw x, step k x as[k] hx hc H' sm pt _ fun a H4 s4 h4 => ?_⟩
    have ptk : (as.take (k + 1)).flatMap fs = (as.take k).flatMap fs ++ fs as[k] := fm_take hc
    have hDa : a ≠ D := fun e => by
      subst e
      rw [s4 _ _ hks] at h4
      cases h4
    refine ⟨fun j m H => m = (fs as[k]).length - j ∧ j ≤ (fs as[k]).length ∧ Same H1 H ∧ Pt H1 H ∧ H a = some (.lst ((fs as[k]).map V.str)) ∧ H D = some (SetTO w D (insAll ((as.take k).flatMap fs ++ (fs as[k]).take j))),
      ⟨_, rfl, Nat.zero_le _, sm.trans s4, pt.trans s4.pt, h4, by rw [List.take_zero, List.append_nil]; exact s4 _ _ hks⟩, ?_⟩
    rintro j m H ⟨rfl, hj, sm, pt, ha, hks⟩
    have I1 := it_list (K := K) (a := a) (xs := (fs as[k]).map V.str)
    have hl1 : ((fs as[k]).map V.str).length = (fs as[k]).length := List.length_map ..
    by_cases hjl : j < (fs as[k]).length
    · refine .inr ⟨I1.go j H (SqL.of ha) (by omega), fun H' => j + 1 ≤ (fs as[k]).length ∧ Same H1 H' ∧ Pt H1 H' ∧ H' a = some (.lst ((fs as[k]).map V.str)) ∧ H' D = some (SetTO w D (insAll ((as.take k).flatMap fs ++ (fs as[k]).take (j + 1)))), fun H' h => ⟨_, by omega, rfl, h⟩, fun y H' yy => ?_⟩
      obtain ⟨rfl, hy⟩ := I1.yld j H y H' (SqL.of ha) (by omega) yy
      have hz1 : (fs as[k])[j]? = some (fs as[k])[j] := List.getElem?_eq_getElem hjl
      rw [List.getElem?_map, hz1] at hy
      cases hy
      have tk : (fs as[k]).take (j + 1) = (fs as[k]).take j ++ [(fs as[k])[j]] := by
        rw [List.take_succ, hz1]
        rfl
      have hin := (insAll_ok ((as.take k).flatMap fs ++ (fs as[k]).take j)).2.2
      have htl : ((fs as[k]).take j).length ≤ (fs as[k]).length := by
        rw [List.length_take]
        exact Nat.min_le_right _ _
      rw [List.length_append] at hin hle
      refine ⟨hw1 x _, elt x _ _ _ ⟨_, _, rfl, hks, by omega, hjl, fun b o e => ?_, pt.trans (Pt.ext hks), ?_, ?_⟩⟩
      · rw [upd_ne (ne_of_none e hD)]
        exact sm b o e
      · rw [upd_ne hDa]
        exact ha
      · rw [tk, ← List.append_assoc, insAll_snoc]
        exact upd_same
    · have e : j = (fs as[k]).length := by omega
      subst e
      rw [List.take_length, ← ptk] at hks
      refine .inl ⟨?_, hlt, sm, pt, hks⟩
      rw [← hl1]
      exact I1.stop H (SqL.of ha)
  · have e : k = zs.length := by omega
    subst e
    rw [← hz, List.take_length] at hks
    exact .inl ⟨O.stop H hst, fin D H sm pt hD hks⟩
end
end PM
set_option Elab.async false
set_option linter.all false
set_option maxRecDepth 100000
set_option maxHeartbeats 4000000
namespace K24
open PySem PySem.Spec PyProof.Rows L2 ZX PM ZR
def spAllNames (K : PySem.W.Frag) : Sp := fun vs H Q _ => ∃ (a : Addr) (us : List V) (rs : List Rw), vs = [.ref a] ∧ (SqL K H a us ∨ SqT K H a us) ∧ Tvs K H us (rs.map dR) ∧ (∀ r ∈ rs, (namesR r).length ≤ 4) ∧ rs.length ≤ 1000 ∧
  ∀ t ys H', Same H H' → H t = none → IsLot ys (rs.flatMap namesR) → H' t = some (.tup (ys.map V.str)) → Q (.ref t) H'
theorem fm_bound {α β : Type} {f : α → List β} {n : Nat} : ∀ (l : List α), (∀ x ∈ l, (f x).length ≤ n) → (l.flatMap f).length ≤ n * l.length
  | [], _ => Nat.zero_le _
  | x :: l, h => by
    have h1 := h x List.mem_cons_self
    have h2 := fm_bound l fun y hy => h y (List.mem_cons_of_mem _ hy)
    rw [List.flatMap_cons, List.length_append, List.length_cons, Nat.mul_succ]
    omega
section
variable {P : Program} {w : World} {K : PySem.W.Frag} {mg : Str → Option Value} {base : Heap}
theorem scAll_names : FnScope ["rows", "row", "name"] ["rows"] (defScope sAll_names) := ⟨rfl, rfl, rfl, by decide +kernel, rfl, by decide +kernel, by decide +kernel⟩
theorem ok_all_names {f : Addr} {fd : FuncData} (F : FnP K "all_names" sAll_names f fd) (T : Bi mg) (C_names_of : Cal P w K mg base "names_of" 2 ["row"] (spNamesOf K)) : FnOk P w K mg base CX0 3 f fd ["rows"] (spAllNames K) := by
  refine F.ok scAll_names (fun vs H Q E h => ?_) (fun cdv A outer s H vs Q E hr h => ?_)
  · obtain ⟨v, us, rs, rfl, _⟩ := h
    rfl
  · obtain ⟨a, us, rs, rfl, hS, hu, h4, hn, k⟩ := h
    have hlen := fm_bound rs h4
    have hz : rs.length = us.length := by rw [hu.len, List.length_map]
    have fin : ∀ D H', Same H H' → H D = none → H' D = some (SetTO w D (insAll (rs.flatMap namesR))) → (rSortTx w) [.ref D] H' fun v H2 => ∃ p ys, [v] = [V.ref p] ∧ ((SqL K H2 p ys ∧ ∀ l, H2 l = none → Q (.ref l) (upd H2 l (.tup ys))) ∨ (SqT K H2 p ys ∧ Q (.ref p) H2)) := fun D H' sm nD hD =>
      ⟨D, _, rfl, hD, by have := (insAll_ok (rs.flatMap namesR)).2.2; omega, fun ys p pm so np => ⟨p, _, rfl, .inl ⟨SqL.of upd_same, fun l nl => k l ys _ ((sm.trans (same_new np)).trans (same_new nl)) ((sm.trans (same_new np)).free nl) (lot_of pm so) upd_same⟩⟩⟩
    have step : ∀ (kk : Nat) x c, us[kk]? = some x → rs[kk]? = some c → ∀ H', Same H H' → Pt H H' → ∀ R : It → Hp → Prop, (∀ a H4, Same H' H4 → H4 a = some (.lst ((namesR c).map V.str)) → R (Itl K a) H4) → spNamesOf K [x] H' (fun v H1 => ∃ a, v = .ref a ∧ (∃ xs, SqL K H1 a xs) ∧ R (Itl K a) H1) E0 := fun kk x c hx hc H' sm pt R hR => by
      obtain ⟨v, hv, tv⟩ := Tvs.get (i := kk) (d := dR c) hu (by rw [List.getElem?_map, hc]; rfl)
      rw [hx] at hv
      cases hv
      exact ⟨x, c, rfl, tv.pt pt, h4 c (List.mem_of_getElem? hc), fun l H4 s4 _ hl => ⟨l, rfl, ⟨_, SqL.of hl⟩, hR l H4 s4 hl⟩⟩
    rcases hS with hS | hS
    · refine ⟨_, PSs.nox (pss_one (ps_ret (pe_callTy call_tuple_of (by rfl) T.b_tuple (by decide +kernel) (pa_cons (pe_callB (call_sortTx rfl) (by rfl) T.b_sorted (by decide +kernel) (pa_cons (pe_sc2S (own := [("row", 1), ("name", 2)]) (vs1 := [2]) (g := gName 1) (g1 := gName 2) (wi1 := iList K (tCall (spNamesOf K) [] E0 (tCons (tVar 1) tNil))) (by rfl) scAll_names.nd (pi_list (pv 0)) (blkOk_by (N := ["rows", "row", "name"]) (sc := defScope sAll_names) (by decide +kernel)) (by decide) (fun _ _ _ _ _ => (pg_name (i := 1) scAll_names.nd rfl (Or.inl rfl))) (fun _ _ _ _ _ => (pi_list (pcal C_names_of hr rfl (pa_cons (pv 1) pa_nil)))) (fun _ _ _ _ _ => (pg_name (i := 2) scAll_names.nd rfl (Or.inl rfl))) (fun _ _ _ _ _ => (pv 2))) pa_nil)) pa_nil)))), ?_⟩
      refine sc2_into ?_
      refine ⟨_, rfl, a, rfl, ⟨us, hS⟩, ?_⟩
      refine sc2_over (K := K) (as := rs) (fs := namesR) it_list hz (by show _ < 4096; omega) (fun H' sm pt => ?_) (fun _ => rfl) (fun _ _ => rfl) ?_ (fun x z H R h => ⟨_, rfl, h⟩) ?_
      · exact hS.imp (fun h => h.elim (fun h => .inl (sm _ _ h)) fun ⟨o, h⟩ => .inr ⟨o, sm _ _ h⟩) id
      · intro kk x c hx hc H' sm pt R hR
        exact ⟨_, rfl, step kk x c hx hc H' sm pt R hR⟩
      · intro D H' sm pt nD hD
        exact fin D H' sm nD hD
    · refine ⟨_, PSs.nox (pss_one (ps_ret (pe_callTy call_tuple_of (by rfl) T.b_tuple (by decide +kernel) (pa_cons (pe_callB (call_sortTx rfl) (by rfl) T.b_sorted (by decide +kernel) (pa_cons (pe_sc2S (own := [("row", 1), ("name", 2)]) (vs1 := [2]) (g := gName 1) (g1 := gName 2) (wi1 := iList K (tCall (spNamesOf K) [] E0 (tCons (tVar 1) tNil))) (by rfl) scAll_names.nd (pi_tup (pv 0)) (blkOk_by (N := ["rows", "row", "name"]) (sc := defScope sAll_names) (by decide +kernel)) (by decide) (fun _ _ _ _ _ => (pg_name (i := 1) scAll_names.nd rfl (Or.inl rfl))) (fun _ _ _ _ _ => (pi_list (pcal C_names_of hr rfl (pa_cons (pv 1) pa_nil)))) (fun _ _ _ _ _ => (pg_name (i := 2) scAll_names.nd rfl (Or.inl rfl))) (fun _ _ _ _ _ => (pv 2))) pa_nil)) pa_nil)))), ?_⟩
      refine sc2_into ?_
      refine ⟨_, rfl, a, rfl, ⟨us, hS⟩, ?_⟩
      refine sc2_over (K := K) (as := rs) (fs := namesR) it_tup hz (by show _ < 4096; omega) (fun H' sm pt => pt.sq hS) (fun _ => rfl) (fun _ _ => rfl) ?_ (fun x z H R h => ⟨_, rfl, h⟩) ?_
      · intro kk x c hx hc H' sm pt R hR
        exact ⟨_, rfl, step kk x c hx hc H' sm pt R hR⟩
      · intro D H' sm pt nD hD
        exact fin D H' sm nD hD
end
end K24
set_option Elab.async false
set_option linter.all false
set_option maxRecDepth 100000
set_option maxHeartbeats 4000000
/-! Rules of my own: a tuple that is known to its object; its method index. -/
namespace ZR
open PySem PySem.Spec PyProof.Rows L2
/-- a tuple of which one knows that it has no dict -/
def Df (H : Hp) (v : V) : Prop := ∃ a o xs, v = .ref a ∧ H a = some (.frz o (.tup xs)) ∧ o.dict = none
theorem Df.same {H H' : Hp} {v : V} (s : Same H H') (d : Df H v) : Df H' v := by
  obtain ⟨a, o, xs, e, h, n⟩ := d
  exact ⟨a, o, xs, e, s _ _ h, n⟩
theorem Df.keep {H H' : Hp} {v : V} (s : ∀ a o xs, H a = some (.frz o (.tup xs)) → H' a = some (.frz o (.tup xs))) (d : Df H v) : Df H' v := by
  obtain ⟨a, o, xs, e, h, n⟩ := d
  exact ⟨a, o, xs, e, s _ _ _ h, n⟩
theorem Df.put {H : Hp} {v : V} {b : Addr} {zs : List V} {u : HO} (hb : H b = some (.lst zs)) (d : Df H v) : Df (upd H b u) v := by
  obtain ⟨a, o, xs, e, h, n⟩ := d
  refine ⟨a, o, xs, e, ?_, n⟩
  rw [upd_ne (fun z => by rw [z, hb] at h; cases h)]
  exact h
def tTupF (t : TA) : TE := fun σ H Q => t σ H fun xs H1 => xs.length ≤ sizeLine ∧ ∀ p o, o.dict = none → H1 p = none → Q (.ref p) (upd H1 p (.frz o (.tup xs)))
section
variable {X : Cx} {es : List Expr} {pos : Pos} {t : TA}
theorem pe_tupF {x1} (h : PA X es t) : PE X (.Tuple es x1 pos) (tTupF t) := by
  refine ⟨fun pins s σ H Q I hq => ?_⟩
  refine wpAny_Tuple_spliced (thn (h.run pos pins s σ H _ I hq) fun us s1 w => ?_)
  obtain ⟨xs, H1, I1, r, z, q⟩ := w
  refine ⟨by rw [← r.length]; exact z, ?_⟩
  have hf := I1.hok.fresh (Nat.le_refl _)
  have hg := Heap.get?_push_size s1.heap (o := { cls := .type "tuple", data := .seq us.toArray }) rfl
  refine ⟨.ref s1.heap.objs.size, _, I1.laid (t' := s1.toks) (o := .frz { cls := .type "tuple", data := .seq us.toArray } (.tup xs)) (fun b u e => Heap.get?_push_of_some _ e) (Nat.le_refl _) ⟨hg, z, us, r, ⟨_, hg, rfl, _, rfl⟩⟩, rfl, q _ _ rfl hf⟩
/-- what the run knows of tuples -/
def tInj (K : PySem.W.Frag) (te : TE) : TE := fun σ H Q => te σ H fun v H1 => (∀ a xs ys, SqT K H1 a xs → SqT K H1 a ys → xs = ys) → Q v H1
theorem pe_inj {e : Expr} {te : TE} (h : PE X e te) : PE X e (tInj X.K te) := by
  refine ⟨fun pins s σ H Q I hq => ?_⟩
  refine thn (h.run pins s σ H _ I hq) fun u s1 w => ?_
  obtain ⟨v, H1, I1, r, q⟩ := w
  exact ⟨v, H1, I1, r, q fun a xs ys h1 h2 => I1.tuple_inj h1 h2⟩
/-- t.index(e) -/
def tTIdx (K : PySem.W.Frag) (to : TE) (t : TA) : TE := fun σ H Q => to σ H fun v H1 => Df H1 v ∧ t σ H1 fun vs H2 => rTIdx K v vs H2 Q
theorem pe_tidx {o e : Expr} {es : List Expr} {apos cpos : Pos} {to : TE} (ho : PE X o to) (ha : PA X (e :: es) t)
    (hbase : attributeBase o "index" X.env (eval o X.env) = eval o X.env := by rfl)
    (hfew : ((backTo cpos (starEach (e :: es) X.env)).all (fun x => !x.1) && (backToKw cpos (keywordEach [] X.env)).all (fun x => x.1.isSome) && decide ((e :: es).length + ([] : List Keyword).length + (if ([] : List Keyword).isEmpty then 0 else 1) < 30)) = true := by rfl)
    (hline : (apos.endLine == cpos.line) = true := by rfl) (hs : starEach (e :: es) X.env = (false, eval e X.env) :: starEach es X.env := by rfl) (hplain : (backTo cpos (starEach es X.env)).any (·.1) = false := by rfl) :
    PE X (.Call (.Attribute o "index" apos) (e :: es) [] cpos) (tTIdx X.K to t) := by
  refine ⟨fun pins s σ H Q I h => ?_⟩
  refine wpAny_Call_method_late hbase hfew hline rfl (thn (ho.run pins s σ H _ I h) fun v s1 w => ?_)
  obtain ⟨x, H1, I1, r1, d, q1⟩ := w
  obtain ⟨a, ob, xs, ex, hx, dn⟩ := d
  subst ex
  cases r1
  obtain ⟨g1, _, its, rv, ob2, g2, g3, _⟩ := (show ObjOk X.prog X.w H1 s1.heap a (.frz ob (.tup xs)) from I1.hok a _ hx)
  rw [g1] at g2
  cases g2
  refine ⟨"tuple", "tuple.index", PySem.F.plainAttrs_tuple, PySem.F.slot_tuple_index, PySem.F.type_tuple_index, ⟨_, g1, g3⟩, fun b eb => by cases eb; exact ⟨_, g1, dn⟩, ?_⟩
  have hA := ha.run cpos pins s1 σ H1 _ I1 q1
  rw [hs] at hA ⊢
  refine Calls.callWith_builtin (by show (false || (backTo cpos (starEach es X.env)).any (·.1)) = false; rw [hplain] <;> rfl) (Calls.evalArgs_plain ?_)
  exact thn hA fun us s2 w2 => by
    obtain ⟨vs, H2, I2, r2, q2⟩ := w2
    exact mt_tidx pins s2 σ H2 (.ref a) vs (.ref a) us Q I2 rfl r2 q2
end
end ZR
set_option Elab.async false
set_option linter.all false
set_option maxRecDepth 100000
set_option maxHeartbeats 4000000
namespace PM
open PySem PySem.Spec PyProof.Rows L2 ZX ZR
theorem ifI {c : Bool} {x y : V} {A B : Prop} (R : V → Prop) (hA : R x → A) (hB : R y → B) (h : R (if c then x else y)) : if c = true then A else B := by
  cases c with
  | true => exact hA h
  | false => exact hB h
theorem rd_ifE {c : Bool} {x y : V} {ta tb : TE} {σ : L2.St} {H : Hp} {R : VK} (ha : ∀ R : VK, R x H → ta σ H R) (hb : ∀ R : VK, R y H → tb σ H R) (h : R (if c then x else y) H) : if c = true then ta σ H R else tb σ H R := by
  cases c with
  | true => exact ha R h
  | false => exact hb R h
/-- next places as a tuple -/
def encL (l : List Nat) : PyData := .tuple (l.map fun (n : Nat) => PyData.int (n : Int))
mutual
theorem ok_depR : ∀ {d : Nat} {r : Rw}, okR d r → d ≤ 4 → depR r + d ≤ 4
  | d, .either a b, h, hd => by
    obtain ⟨h1, _, _, h2, h3⟩ := h
    have := ok_depB h2 (by omega)
    have := ok_depB h3 (by omega)
    show max (depB a) (depB b) + 1 + d ≤ 4
    omega
  | d, .again a, h, hd => by
    obtain ⟨h1, _, h2⟩ := h
    have := ok_depB h2 (by omega)
    show depB a + 1 + d ≤ 4
    omega
  | d, .note _ _ _, _, hd => by show 0 + d ≤ 4; omega
  | d, .copy _ _, _, hd => by show 0 + d ≤ 4; omega
  | d, .give _ _, _, hd => by show 0 + d ≤ 4; omega
  | d, .ask _, _, hd => by show 0 + d ≤ 4; omega
  | d, .prt _, _, hd => by show 0 + d ≤ 4; omega
theorem ok_depB : ∀ {d : Nat} {b : List Rw}, okB d b → d ≤ 4 → depB b + d ≤ 4
  | d, [], _, hd => by show 0 + d ≤ 4; omega
  | d, r :: b, h, hd => by
    have := ok_depR h.1 hd
    have := ok_depB h.2 hd
    show max (depR r) (depB b) + d ≤ 4
    omega
end
mutual
theorem ok_names_R : ∀ {d : Nat} {r : Rw}, okR d r → ∀ x ∈ rowsR r, (namesR x).length ≤ 4
  | d, .either a b, h, x, hx => by
    rcases List.mem_cons.mp hx with rfl | hx
    · exact Nat.zero_le _
    · rcases List.mem_append.mp hx with hx | hx
      · exact ok_names_B h.2.2.2.1 x hx
      · exact ok_names_B h.2.2.2.2 x hx
  | d, .again a, h, x, hx => by
    rcases List.mem_cons.mp hx with rfl | hx
    · exact Nat.zero_le _
    · exact ok_names_B h.2.2 x hx
  | d, .note y o ps, h, x, hx => by
    rw [List.mem_singleton.mp hx]
    show ps.length + 1 ≤ 4
    have := h.2.2.1
    omega
  | d, .copy _ _, h, x, hx => by
    rw [List.mem_singleton.mp hx]
    show 2 ≤ 4
    omega
  | d, .give _ _, h, x, hx => by
    rw [List.mem_singleton.mp hx]
    show 1 ≤ 4
    omega
  | d, .ask _, h, x, hx => by
    rw [List.mem_singleton.mp hx]
    show 1 ≤ 4
    omega
  | d, .prt _, h, x, hx => by
    rw [List.mem_singleton.mp hx]
    show 1 ≤ 4
    omega
theorem ok_names_B : ∀ {d : Nat} {b : List Rw}, okB d b → ∀ x ∈ rowsB b, (namesR x).length ≤ 4
  | d, [], _, x, hx => nomatch hx
  | d, r :: b, h, x, hx => by
    rcases List.mem_append.mp hx with hx | hx
    · exact ok_names_R h.1 x hx
    · exact ok_names_B h.2 x hx
end
/-- a program's block -/
structure Good (b : List Rw) : Prop where
  ok : okB 1 b
  l12 : b.length ≤ 12
  l30 : (rowsB b).length ≤ 30
  n8 : ∀ ys, IsLot ys ((rowsB b).flatMap namesR) → ys.length ≤ 8
end PM
namespace K24
open PySem PySem.Spec PyProof.Rows L2 ZX PM ZR
def spBad (K : PySem.W.Frag) : Sp := fun vs H Q _ => ∃ (v : V) (b : List Rw) (mn : Int), vs = [v, .int mn] ∧ BV K H v b ∧ Good b ∧ ∀ H', Same H H' → Q .non H'
def spRowLeads (K : PySem.W.Frag) (n : Nat) : Sp := fun vs H Q _ => ∃ (v : V) (r : Rw) (p e : Nat), vs = [v, .int p, .int e] ∧ RV K H v r ∧ depR r < n ∧ depR r ≤ 3 ∧ (rowsR r).length ≤ 1000 ∧
  ∀ l us H', Same H H' → H l = none → H' l = some (.lst us) → Tvs K H' us ((leadsR r p e).map encL) → (∀ u ∈ us, Df H' u) → Q (.ref l) H'
def spBlockLeads (K : PySem.W.Frag) (n : Nat) : Sp := fun vs H Q _ => ∃ (v : V) (b : List Rw) (p e : Nat), vs = [v, .int p, .int e] ∧ BV K H v b ∧ depB b < n ∧ depB b ≤ 3 ∧ (rowsB b).length ≤ 1000 ∧
  ∀ l us H', Same H H' → H l = none → H' l = some (.lst us) → Tvs K H' us ((leadsB b p e).map encL) → (∀ u ∈ us, Df H' u) → Q (.ref l) H'
section
variable {P : Program} {w : World} {K : PySem.W.Frag} {mg : Str → Option Value} {base : Heap}
theorem scBad_place : FnScope ["block", "many", "place", "rows"] ["block", "many"] (defScope sBad_place) := ⟨rfl, rfl, rfl, by decide +kernel, rfl, by decide +kernel, by decide +kernel⟩
theorem ok_bad_place {f : Addr} {fd : FuncData} (F : FnP K "bad_place" sBad_place f fd) (T : Bi mg) (C_formless_place : Cal P w K mg base "formless_place" 4 ["block", "many"] (spFormless K)) (C_rows_of : Cal P w K mg base "rows_of" 5 ["block"] (spRowsOf K 4)) (C_all_names : Cal P w K mg base "all_names" 3 ["rows"] (spAllNames K)) : FnOk P w K mg base CX0 6 f fd ["block", "many"] (spBad K) := by
  refine F.ok scBad_place (fun vs H Q E h => ?_) (fun cdv A outer s H vs Q E hr h => ?_)
  · obtain ⟨v, r, mn, rfl, _⟩ := h
    rfl
  · obtain ⟨v, b, mn, rfl, tv, G, k⟩ := h
    obtain ⟨a, xs, rfl, hS, ht⟩ := tv.tupI
    have hr_formless_place := hr.mono (show 4 ≤ 5 by decide)
    have hr_all_names := hr.mono (show 3 ≤ 5 by decide)
    have hr_rows_of := hr
    obtain ⟨t12, m_MOST_ROWS_IN_BLOCK⟩ := T.m_MOST_ROWS_IN_BLOCK
    obtain ⟨t30, m_MOST_ROWS⟩ := T.m_MOST_ROWS
    obtain ⟨t8, m_MOST_NAMES⟩ := T.m_MOST_NAMES
    refine ⟨_, PSs.nox (pss_cons (ps_if (pt_not (pt_val (pe_callB call_isi (by rfl) T.b_isinstance (by decide +kernel) (pa_cons (pv 0) (pa_cons (pe_bltn (v := .ty "tuple") (by rfl) T.b_tuple (by decide +kernel) rfl) pa_nil))))) (pss_one (ps_ret (pe_un un_neg pe_int))) pss_nil)
    (pss_cons (ps_set (i := 2) scBad_place.nd rfl (Or.inl rfl) (pcal C_formless_place hr_formless_place rfl (pa_cons (pv 0) (pa_cons (pv 1) pa_nil))))
    (pss_cons (ps_if (pt_cmpR op_notN (pv 2) pe_non (nomark _)) (pss_one (ps_ret (pv 2))) pss_nil)
    (pss_cons (ps_set (i := 3) scBad_place.nd rfl (Or.inl rfl) (pcal C_rows_of hr_rows_of rfl (pa_cons (pv 0) pa_nil)))
    (pss_cons (ps_if (PW.pt (pw_or (pt_cmpR op_gt (pe_callB call_len_seq (by rfl) T.b_len (by decide +kernel) (pa_cons (pv 0) pa_nil)) (pe_glob (v := .int _) rfl m_MOST_ROWS_IN_BLOCK ⟨_, rfl⟩) (nomark _)) (pw_or (pt_cmpR op_gt (pe_callB call_len_seq (by rfl) T.b_len (by decide +kernel) (pa_cons (pv 3) pa_nil)) (pe_glob (v := .int _) rfl m_MOST_ROWS ⟨_, rfl⟩) (nomark _)) (pw_or1 (pt_cmpR op_gt (pe_callB call_len_seq (by rfl) T.b_len (by decide +kernel) (pa_cons (pcal C_all_names hr_all_names rfl (pa_cons (pv 3) pa_nil)) pa_nil)) (pe_glob (v := .int _) rfl m_MOST_NAMES ⟨_, rfl⟩) (nomark _)))))) (pss_one (ps_ret (pe_un un_neg pe_int))) pss_nil)
    (pss_one (ps_ret pe_non))))))), ?_⟩
    have l30 := G.l30
    have hdep := ok_depB G.ok (by decide)
    have hxl : xs.length = b.length := by rw [ht.len, dB_eq, List.length_map]
    refine ⟨_, rfl, _, _, _, _, true, rfl, .ty "tuple", tyT hS, rfl, true, rfl, ?_⟩
    refine ⟨_, rfl, _, rfl, _, b, mn, rfl, tv, G.ok, by omega, fun H1 s1 => ?_⟩
    refine ⟨_, rfl, rfl, false, rfl, ?_⟩
    refine ⟨_, rfl, _, b, rfl, tv.pt s1.pt, by omega, by omega, fun l us H2 s2 nl hl hu => ?_⟩
    have hul := hu.len
    rw [List.length_map] at hul
    refine ⟨_, rfl, a, _, rfl, .inr ((s1.trans s2).pt.sq hS), _, _, rfl, rfl, _, rfl, ifDF (by have := G.l12; omega) ?_⟩
    refine ⟨_, rfl, l, _, rfl, .inl (SqL.of hl), _, _, rfl, rfl, _, rfl, ifDF (by omega) ?_⟩
    refine ⟨_, rfl, l, us, rowsB b, rfl, .inl (SqL.of hl), hu, ok_names_B G.ok, by omega, fun t ys H3 s3 nt ly ht3 => ?_⟩
    have := G.n8 ys ly
    refine ⟨t, _, rfl, .inr (.inl (.inl ht3)), _, _, rfl, rfl, _, rfl, ?_⟩
    rw [decide_eq_false (by rw [List.length_map]; omega)]
    exact k H3 ((s1.trans s2).trans s3)
end
end K24
set_option Elab.async false
set_option linter.all false
set_option maxRecDepth 100000
set_option maxHeartbeats 4000000
namespace K24
open PySem PySem.Spec PyProof.Rows L2 ZX PM ZR
section
variable {P : Program} {w : World} {K : PySem.W.Frag} {mg : Str → Option Value} {base : Heap}
theorem scBlock_leads : FnScope ["block", "place", "behind", "found", "k", "row", "end"] ["block", "place", "behind"] (defScope sBlock_leads) := ⟨rfl, rfl, rfl, by decide +kernel, rfl, by decide +kernel, by decide +kernel⟩
theorem ok_block_leads1 {n m : Nat} {f : Addr} {fd : FuncData} (F : FnP K "block_leads" sBlock_leads f fd) (T : Bi mg) (hm : 5 ≤ m) (C_rows_of : Cal P w K mg base "rows_of" 5 ["block"] (spRowsOf K 4)) (C_row_leads : Cal P w K mg base "row_leads" m ["row", "place", "behind"] (spRowLeads K n)) : FnOk P w K mg base CX0 (m + 1) f fd ["block", "place", "behind"] (spBlockLeads K n) := by
  refine F.ok scBlock_leads (fun vs H Q E h => ?_) (fun cdv A outer s H vs Q E hr h => ?_)
  · obtain ⟨v, b, p, e, rfl, _⟩ := h
    rfl
  · obtain ⟨v, b, p, e, rfl, tv, hd, hd3, hn, k⟩ := h
    obtain ⟨a, xs, rfl, hS, ht⟩ := tv.tupI
    have hxl : xs.length = b.length := by rw [ht.len, dB_eq, List.length_map]
    have hr_rows_of := hr.mono hm
    have hr_row_leads := hr
    refine ⟨_, PSs.nox (pss_cons (ps_set (i := 3) scBlock_leads.nd rfl (Or.inl rfl) (pe_lst pa_nil))
    (pss_cons (ps_for PassesOwn.never rfl (pi_enumT rfl T.b_enumerate (pa_cons (pv 0) pa_nil)) (pg_tup rfl (pgs_cons (pg_name (i := 4) scBlock_leads.nd rfl (Or.inl rfl)) (pgs_cons (pg_name (i := 5) scBlock_leads.nd rfl (Or.inl rfl)) pgs_nil))) (pss_cons (ps_set (i := 6) scBlock_leads.nd rfl (Or.inl rfl) (pe_op op_add (pv 1) (pe_callB call_len_seq (by rfl) T.b_len (by decide +kernel) (pa_cons (pcal C_rows_of hr_rows_of rfl (pa_cons (pe_tup (pa_cons (pv 5) pa_nil)) pa_nil)) pa_nil))))
      (pss_cons (ps_expr (pe_bm PySem.F.plainAttrs_list PySem.F.slot_list_extend PySem.F.type_list_extend mt_extend (pv 3) (pa_cons (pcal C_row_leads hr_row_leads rfl (pa_cons (pv 5) (pa_cons (pv 1) (pa_cons (pe_ifExp (pt_cmpR op_lt (pe_op op_add (pv 4) pe_int) (pe_callB call_len_seq (by rfl) T.b_len (by decide +kernel) (pa_cons (pv 0) pa_nil)) (nomark _)) (pv 6) (pv 2)) pa_nil)))) pa_nil)))
      (pss_one (ps_set (i := 1) scBlock_leads.nd rfl (Or.inl rfl) (pv 6))))))
    (pss_one (ps_ret (pv 3))))), ?_⟩
    refine ⟨by decide, fun l nl => ?_⟩
    refine ⟨_, rfl, a, xs, rfl, (Pt.new nl).sq hS, ?_⟩
    refine for_it (walk_enumT (xs := xs)) (fun i σ' H' => ∃ us don pl y4 y5 y6, σ' = [some (.ref a), some (.int (pl : Nat)), some (.int e), some (.ref l), y4, y5, y6] ∧ Same H H' ∧ H' l = some (.lst us) ∧ Tvs K H' us (List.map encL don) ∧ (∀ u ∈ us, Df H' u) ∧ don ++ leadsB (b.drop i) pl e = leadsB b p e)
      ⟨[], [], p, _, _, _, rfl, same_new nl, upd_same, .nil, fun _ h => (nomatch h), rfl⟩ ?_ ?_ ?_
    · rintro i σ' H' _ ⟨_, _, _, _, _, _, _, sm, _⟩
      exact sm.pt.sq hS
    · rintro i x σ' H' H2 hi ⟨us, don, pl, y4, y5, y6, rfl, sm, hl, hu, hdf, he⟩ ⟨t, x1, x2, rfl, nt, rfl, e1, e2⟩
      cases e1
      have s2 := same_new (o := .tup [.int (i : Nat), x2]) nt
      obtain ⟨r, hr, tr⟩ := (ht.pt (sm.trans s2).pt).nthR e2
      have hil : i < b.length := by omega
      have hdr : b.drop i = r :: b.drop (i + 1) := by
        rw [List.drop_eq_getElem_cons hil]
        rw [List.getElem?_eq_getElem hil] at hr
        cases hr
        rfl
      have hrm : r ∈ b := List.mem_of_getElem? hr
      have hdR := depB_mem hrm
      have hrl : (rowsR r).length ≤ (rowsB b).length := by
        have := fm_le1 (f := rowsR) hr
        rw [List.length_append, ← rowsB_eq b] at this
        omega
      rw [hdr, leadsB] at he
      have hlen := congrArg List.length he
      rw [leadsB_len, List.length_append, List.length_append, leadsR_len] at hlen
      have hul := hu.len
      rw [List.length_map] at hul
      refine ⟨t, _, rfl, .inl (.inl upd_same), rfl, _, _, rfl, _, _, rfl, rfl, ?_⟩
      have hdep1 : depB [r] < 4 := by
        show max (depR r) 0 < 4
        omega
      have hrow1 : rowsB [r] = rowsR r := List.append_nil _
      refine ⟨_, rfl, _, rfl, by show 1 ≤ sizeLine; decide, fun t3 nt3 => ⟨_, [r], rfl, .tup (.inl (.inl upd_same)) (.cons (tr.pt (Pt.new nt3)) .nil), hdep1, by rw [hrow1]; omega, fun l4 zs H4 s4 n4 h4 t4 => ?_⟩⟩
      have s24 : Same H' H4 := (s2.trans (same_new nt3)).trans s4
      have hzl := t4.len
      rw [List.length_map, hrow1] at hzl
      refine ⟨l4, _, rfl, .inl (SqL.of h4), _, _, rfl, rfl, ?_⟩
      refine ⟨_, rfl, .inl ⟨rfl, _, SqL.of (s24 _ _ hl)⟩, _, rfl, _, rfl, _, rfl, _, _, rfl, rfl, _, rfl, a, _, rfl, .inr ((sm.trans s24).pt.sq hS), _, _, rfl, rfl, _, rfl, ?_⟩
      refine rd_ifE (fun R h => ⟨_, rfl, h⟩) (fun R h => ⟨_, rfl, h⟩) ?_
      have hv : (if decide (((i : Nat) : Int) + 1 < (xs.length : Int)) then V.int ((pl : Int) + (zs.length : Int)) else V.int (e : Int)) = V.int ((if (b.drop (i + 1)).isEmpty then e else pl + (rowsR r).length : Nat) : Int) := by
        rw [hzl]
        by_cases hlt : i + 1 < b.length
        · rw [decide_eq_true (by omega), if_pos rfl]
          have : (b.drop (i + 1)).isEmpty = false := by
            cases hb : b.drop (i + 1) with
            | nil =>
              have := congrArg List.length hb
              rw [List.length_drop] at this
              simp at this
              omega
            | cons _ _ => rfl
          rw [this]
          simp
        · rw [decide_eq_false (by omega), List.drop_eq_nil_of_le (by omega)]
          rfl
      refine ⟨x2, r, pl, _, by rw [← hv]; rfl, (tr.pt (Pt.new nt3)).pt s4.pt, by omega, by omega, by omega, fun l5 ws H5 s5 n5 h5 t5 df5 => ?_⟩
      have hwl := t5.len
      rw [List.length_map, leadsR_len] at hwl
      refine ⟨l, l5, us, ws, rfl, rfl, s5 _ _ (s24 _ _ hl), h5, Nat.le_trans (by omega : us.length + ws.length ≤ 1000) (by decide), ?_⟩
      have pt := Pt.lst (o := .lst (us ++ ws)) (s5 _ _ (s24 _ _ hl))
      refine ⟨_, rfl, us ++ ws, don ++ leadsR r pl (if (b.drop (i + 1)).isEmpty then e else pl + (rowsR r).length), pl + (rowsR r).length, some (.int (i : Nat)), some x2, some (.int ((pl : Int) + (zs.length : Int))), ?_, ((sm.trans s24).trans s5).put nl, upd_same, ?_, ?_, ?_⟩
      · show [_, some (V.int ((pl : Int) + (zs.length : Int))), _, _, _, _, _] = _
        rw [hzl]
        rfl
      · rw [List.map_append]
        exact Tvs.app ((hu.pt (s24.trans s5).pt).pt pt) (t5.pt pt)
      · intro u hu2
        rcases List.mem_append.mp hu2 with h | h
        · exact ((hdf u h).same (s24.trans s5)).put (s5 _ _ (s24 _ _ hl))
        · exact (df5 u h).put (s5 _ _ (s24 _ _ hl))
      · rw [List.append_assoc]
        exact he
    · rintro σ' H' ⟨us, don, pl, y4, y5, y6, rfl, sm, hl, hu, hdf, he⟩
      rw [hxl, List.drop_length, leadsB, List.append_nil] at he
      subst he
      exact ⟨_, rfl, k l us H' sm nl hl hu hdf⟩
theorem scRow_leads : FnScope ["row", "place", "behind", "first", "second", "begins"] ["row", "place", "behind"] (defScope sRow_leads) := ⟨rfl, rfl, rfl, by decide +kernel, rfl, by decide +kernel, by decide +kernel⟩
theorem isE_of {x1 : List V} {H : Hp} {b1 : List Rw} (h : Tvs K H x1 (dB b1)) : (!x1.isEmpty) = !b1.isEmpty := by
  cases b1 with
  | nil => cases h; rfl
  | cons r b => cases h; rfl
theorem pick_eq {c : Bool} {x y : Nat} : (if !c then V.int (x : Int) else V.int (y : Int)) = V.int ((if c then y else x : Nat) : Int) := by
  cases c <;> rfl
theorem ok_row_leads0 {f : Addr} {fd : FuncData} (k : Nat) : FnOk P w K mg base CX0 k f fd ["row", "place", "behind"] (spRowLeads K 0) :=
  ⟨fun vs H Q E h => by
    obtain ⟨_, _, _, _, _, _, h, _⟩ := h
    exact absurd h (Nat.not_lt_zero _), fun A outer s H args us vs Q E hr e0 hb r h => by
    obtain ⟨_, _, _, _, _, _, h, _⟩ := h
    exact absurd h (Nat.not_lt_zero _)⟩
theorem ok_row_leads1 {n m : Nat} {f : Addr} {fd : FuncData} (F : FnP K "row_leads" sRow_leads f fd) (T : Bi mg) (hm : 5 ≤ m) (C_rows_of : Cal P w K mg base "rows_of" 5 ["block"] (spRowsOf K 4)) (C_block_leads : Cal P w K mg base "block_leads" m ["block", "place", "behind"] (spBlockLeads K n)) : FnOk P w K mg base CX0 (m + 1) f fd ["row", "place", "behind"] (spRowLeads K (n + 1)) := by
  refine F.ok scRow_leads (fun vs H Q E h => ?_) (fun cdv A outer s H vs Q E hr h => ?_)
  · obtain ⟨v, r, p, e, rfl, _⟩ := h
    rfl
  · obtain ⟨v, r, p, e, rfl, tv, hd, hd3, hn, k⟩ := h
    obtain ⟨a, tl, rfl, hS, ht⟩ := tv.rowI
    have hr_rows_of := hr.mono hm
    have hr_block_leads := hr
    refine ⟨_, PSs.nox (pss_cons (ps_if (pt_cmpR op_eq (pe_ix ix_tup (pv 0) pe_int (fun _ _ => rfl)) pe_str (nomark _)) (pss_cons (ps_set (i := 3) scRow_leads.nd rfl (Or.inl rfl) (pe_op op_add (pv 1) pe_int))
      (pss_cons (ps_set (i := 4) scRow_leads.nd rfl (Or.inl rfl) (pe_op op_add (pv 3) (pe_callB call_len_seq (by rfl) T.b_len (by decide +kernel) (pa_cons (pcal C_rows_of hr_rows_of rfl (pa_cons (pe_ix ix_tup (pv 0) pe_int (fun _ _ => rfl)) pa_nil)) pa_nil))))
      (pss_cons (ps_set (i := 5) scRow_leads.nd rfl (Or.inl rfl) (pe_tupF (pa_cons (pe_ifExp (pt_truth (pe_ix ix_tup (pv 0) pe_int (fun _ _ => rfl)) (by intro _; rfl)) (pv 3) (pv 2)) (pa_cons (pe_ifExp (pt_truth (pe_ix ix_tup (pv 0) pe_int (fun _ _ => rfl)) (by intro _; rfl)) (pv 4) (pv 2)) pa_nil))))
      (pss_one (ps_ret (pe_op op_cat (pe_op op_cat (pe_lst (pa_cons (pv 5) pa_nil)) (pcal C_block_leads hr_block_leads rfl (pa_cons (pe_ix ix_tup (pv 0) pe_int (fun _ _ => rfl)) (pa_cons (pv 3) (pa_cons (pv 2) pa_nil))))) (pcal C_block_leads hr_block_leads rfl (pa_cons (pe_ix ix_tup (pv 0) pe_int (fun _ _ => rfl)) (pa_cons (pv 4) (pa_cons (pv 2) pa_nil)))))))))) pss_nil)
    (pss_cons (ps_if (pt_cmpR op_eq (pe_ix ix_tup (pv 0) pe_int (fun _ _ => rfl)) pe_str (nomark _)) (pss_cons (ps_set (i := 5) scRow_leads.nd rfl (Or.inl rfl) (pe_tupF (pa_cons (pe_ifExp (pt_truth (pe_ix ix_tup (pv 0) pe_int (fun _ _ => rfl)) (by intro _; rfl)) (pe_op op_add (pv 1) pe_int) (pv 1)) (pa_cons (pv 2) pa_nil))))
      (pss_one (ps_ret (pe_op op_cat (pe_lst (pa_cons (pv 5) pa_nil)) (pcal C_block_leads hr_block_leads rfl (pa_cons (pe_ix ix_tup (pv 0) pe_int (fun _ _ => rfl)) (pa_cons (pe_op op_add (pv 1) pe_int) (pa_cons (pv 1) pa_nil)))))))) pss_nil)
    (pss_one (ps_ret (pe_lst (pa_cons (pe_tupF (pa_cons (pv 2) pa_nil)) pa_nil)))))), ?_⟩
    have one : leadsR r p e = [[e]] → tRet (tLst (tCons (tTupF (tCons (tVar 2) tNil)) tNil)) { nx := fun _ H' => Q .non H', rt := Q } (L2.start ["row", "place", "behind", "first", "second", "begins"] [.ref a, .int p, .int e]) H := fun he => by
      refine ⟨_, rfl, by show 1 ≤ sizeLine; decide, fun t o no nt => ⟨by show 1 ≤ sizeLine; decide, fun l nl => k l [.ref t] _ ((same_new nt).trans (same_new nl)) ((same_new nt).free nl) upd_same ?_ ?_⟩⟩
      · rw [he]
        exact .cons (.tup (.inl (.inr ⟨o, by rw [upd_ne (ne_of_none upd_same nl)]; exact upd_same⟩)) (.cons (.int _) .nil)) .nil
      · intro u hu
        rw [List.mem_singleton.mp hu]
        exact ⟨t, o, _, rfl, by rw [upd_ne (ne_of_none upd_same nl)]; exact upd_same, no⟩
    refine ⟨_, rfl, _, _, _, _, rfl, rfl, hS, at0, rfl, _, rfl, ?_⟩
    cases r with
    | note x o ps => exact ifDF (neS (a := "note") (b := "either") (by decide +kernel)) ⟨_, rfl, _, _, _, _, rfl, rfl, hS, at0, rfl, _, rfl, ifDF (neS (a := "note") (b := "again") (by decide +kernel)) (one rfl)⟩
    | copy x y => exact ifDF (neS (a := "copy") (b := "either") (by decide +kernel)) ⟨_, rfl, _, _, _, _, rfl, rfl, hS, at0, rfl, _, rfl, ifDF (neS (a := "copy") (b := "again") (by decide +kernel)) (one rfl)⟩
    | give x i => exact ifDF (neS (a := "give") (b := "either") (by decide +kernel)) ⟨_, rfl, _, _, _, _, rfl, rfl, hS, at0, rfl, _, rfl, ifDF (neS (a := "give") (b := "again") (by decide +kernel)) (one rfl)⟩
    | ask x => exact ifDF (neS (a := "ask") (b := "either") (by decide +kernel)) ⟨_, rfl, _, _, _, _, rfl, rfl, hS, at0, rfl, _, rfl, ifDF (neS (a := "ask") (b := "again") (by decide +kernel)) (one rfl)⟩
    | prt x => exact ifDF (neS (a := "print") (b := "either") (by decide +kernel)) ⟨_, rfl, _, _, _, _, rfl, rfl, hS, at0, rfl, _, rfl, ifDF (neS (a := "print") (b := "again") (by decide +kernel)) (one rfl)⟩
    | either b1 b2 =>
      obtain ⟨v1, v2, rfl, t1, t2⟩ := ht.two
      obtain ⟨a1, x1, rfl, hS1, ht1⟩ := t1.tupI
      obtain ⟨a2, x2, rfl, hS2, ht2⟩ := t2.tupI
      have hdd : depB b1 < n ∧ depB b2 < n ∧ depB b1 ≤ 2 ∧ depB b2 ≤ 2 := by
        have hd : max (depB b1) (depB b2) + 1 < n + 1 := hd
        have hd3 : max (depB b1) (depB b2) + 1 ≤ 3 := hd3
        omega
      have hnn : (rowsB b1).length + (rowsB b2).length + 1 ≤ 1000 := by
        have hn : ((rowsB b1 ++ rowsB b2).length + 1) ≤ 1000 := hn
        rw [List.length_append] at hn
        omega
      refine ifD rfl ⟨_, rfl, _, _, rfl, rfl, ?_⟩
      refine ⟨_, rfl, _, rfl, _, _, _, _, rfl, rfl, hS, rfl, _, b1, rfl, t1, by omega, by omega, fun l us H1 s1 nl hl hu => ⟨l, _, rfl, .inl (SqL.of hl), _, _, rfl, rfl, ?_⟩⟩
      have hul := hu.len
      rw [List.length_map] at hul
      refine ⟨_, rfl, _, _, _, _, rfl, rfl, s1.pt.sq hS, rfl, _, .inr (.inl ⟨_, s1.pt.sq hS1, rfl⟩), rd_ifE (fun R h => ⟨_, rfl, h⟩) (fun R h => ⟨_, rfl, h⟩) ?_⟩
      refine ⟨_, rfl, _, _, _, _, rfl, rfl, s1.pt.sq hS, rfl, _, .inr (.inl ⟨_, s1.pt.sq hS2, rfl⟩), rd_ifE (fun R h => ⟨_, rfl, h⟩) (fun R h => ⟨_, rfl, h⟩) ?_⟩
      refine ⟨by show 2 ≤ sizeLine; decide, fun t ot not_ nt => ?_⟩
      have e1 : (if (!x1.isEmpty) then V.int ((p : Int) + 1) else V.int (e : Int)) = V.int ((if b1.isEmpty then e else p + 1 : Nat) : Int) := by
        rw [isE_of ht1]
        exact pick_eq
      have e2 : (if (!x2.isEmpty) then V.int ((p : Int) + 1 + (us.length : Int)) else V.int (e : Int)) = V.int ((if b2.isEmpty then e else p + 1 + (rowsB b1).length : Nat) : Int) := by
        rw [isE_of ht2, ← hul]
        exact pick_eq
      have ht1t : ∀ H', Pt (upd H1 t (.frz ot (.tup [if (!x1.isEmpty) then V.int ((p : Int) + 1) else V.int (e : Int), if (!x2.isEmpty) then V.int ((p : Int) + 1 + (us.length : Int)) else V.int (e : Int)]))) H' → Tv K H' (.ref t) (encL [if b1.isEmpty then e else p + 1, if b2.isEmpty then e else p + 1 + (rowsB b1).length]) := fun H' pt => by
        refine .tup (pt.sq (.inl (.inr ⟨ot, upd_same⟩))) ?_
        rw [e1, e2]
        exact .cons (.int _) (.cons (.int _) .nil)
      generalize hT : (HO.frz ot (HO.tup [if (!x1.isEmpty) then V.int ((p : Int) + 1) else V.int (e : Int), if (!x2.isEmpty) then V.int ((p : Int) + 1 + (us.length : Int)) else V.int (e : Int)])) = T1 at ht1t
      have sT : Same H (upd H1 t T1) := s1.trans (same_new nt)
      subst hT
      refine ⟨_, rfl, by show 1 ≤ sizeLine; decide, fun l0 nl0 => ?_⟩
      have s0 := sT.trans (same_new (o := .lst [.ref t]) nl0)
      refine ⟨_, rfl, _, _, _, _, rfl, rfl, s0.pt.sq hS, rfl, _, rfl, _, rfl, _, b1, p + 1, e, rfl, t1.pt s0.pt, by omega, by omega, by omega, fun l1 us1 H2 s2 n2 hl1 hu1 df1 => ?_⟩
      have hl1n := hu1.len
      rw [List.length_map, leadsB_len] at hl1n
      refine ⟨l0, l1, _, us1, rfl, rfl, s2 _ _ upd_same, hl1, Nat.le_trans (show 1 + us1.length ≤ 1000 by omega) (by decide), fun l2 nl2 => ?_⟩
      have s02 := (s0.trans s2).trans (same_new (o := .lst ([.ref t] ++ us1)) nl2)
      refine ⟨_, rfl, _, _, _, _, rfl, rfl, s02.pt.sq hS, rfl, _, rfl, _, rfl, _, b2, p + 1 + (rowsB b1).length, e, by rw [← hul]; rfl, t2.pt s02.pt, by omega, by omega, by omega, fun l3 us3 H3 s3 n3 hl3 hu3 df3 => ?_⟩
      have hl3n := hu3.len
      rw [List.length_map, leadsB_len] at hl3n
      refine ⟨l2, l3, _, us3, rfl, rfl, s3 _ _ upd_same, hl3, Nat.le_trans (m := 1000) (by rw [List.length_append]; show 1 + us1.length + us3.length ≤ 1000; omega) (by decide), fun l4 nl4 => ?_⟩
      have pA := (same_new (o := .lst [.ref t]) nl0).pt
      have pB := (s2.trans (same_new (o := .lst ([.ref t] ++ us1)) nl2)).pt
      have pC := (s3.trans (same_new (o := .lst (([.ref t] ++ us1) ++ us3)) nl4)).pt
      refine k l4 _ _ ((s02.trans s3).trans (same_new nl4)) ((s02.trans s3).free nl4) upd_same ?_ ?_
      rotate_left
      · intro u hu
        rcases List.mem_append.mp hu with h | h
        · rcases List.mem_append.mp h with h | h
          · rw [List.mem_singleton.mp h]
            exact Df.same (s3.trans (same_new nl4)) (Df.same ((same_new nl0).trans (s2.trans (same_new nl2))) ⟨t, ot, _, rfl, upd_same, not_⟩)
          · exact (df1 u h).same ((same_new nl2).trans (s3.trans (same_new nl4)))
        · exact (df3 u h).same (same_new nl4)
      rw [leadsR, List.map_cons, List.map_append]
      exact .cons (ht1t _ ((pA.trans pB).trans pC)) (Tvs.app (hu1.pt ((same_new (o := .lst ([.ref t] ++ us1)) nl2).pt.trans pC)) (hu3.pt (same_new nl4).pt))
    | again b1 =>
      obtain ⟨v1, rfl, t1⟩ := ht.one
      obtain ⟨a1, x1, rfl, hS1, ht1⟩ := t1.tupI
      have hdd : depB b1 < n ∧ depB b1 ≤ 2 := by
        have hd : depB b1 + 1 < n + 1 := hd
        have hd3 : depB b1 + 1 ≤ 3 := hd3
        omega
      have hnn : (rowsB b1).length + 1 ≤ 1000 := hn
      refine ifDF (neS (a := "again") (b := "either") (by decide +kernel)) ⟨_, rfl, _, _, _, _, rfl, rfl, hS, at0, rfl, _, rfl, ifD rfl ?_⟩
      refine ⟨_, rfl, _, _, _, _, rfl, rfl, hS, rfl, _, .inr (.inl ⟨_, hS1, rfl⟩), rd_ifE (fun R h => ⟨_, rfl, _, _, rfl, rfl, h⟩) (fun R h => ⟨_, rfl, h⟩) ?_⟩
      refine ⟨_, rfl, by show 2 ≤ sizeLine; decide, fun t ot not_ nt => ?_⟩
      have e1 : (if (!x1.isEmpty) then V.int ((p : Int) + 1) else V.int (p : Int)) = V.int ((if b1.isEmpty then p else p + 1 : Nat) : Int) := by
        rw [isE_of ht1]
        exact pick_eq
      have ht1t : ∀ H', Pt (upd H t (.frz ot (.tup [if (!x1.isEmpty) then V.int ((p : Int) + 1) else V.int (p : Int), V.int (e : Int)]))) H' → Tv K H' (.ref t) (encL [if b1.isEmpty then p else p + 1, e]) := fun H' pt => by
        refine .tup (pt.sq (.inl (.inr ⟨ot, upd_same⟩))) ?_
        rw [e1]
        exact .cons (.int _) (.cons (.int _) .nil)
      have sT := same_new (o := .frz ot (.tup [if (!x1.isEmpty) then V.int ((p : Int) + 1) else V.int (p : Int), V.int (e : Int)])) nt
      refine ⟨_, rfl, by show 1 ≤ sizeLine; decide, fun l0 nl0 => ?_⟩
      have s0 := sT.trans (same_new (o := .lst [.ref t]) nl0)
      refine ⟨_, rfl, _, _, _, _, rfl, rfl, s0.pt.sq hS, rfl, _, rfl, _, _, rfl, rfl, _, rfl, _, b1, p + 1, p, rfl, t1.pt s0.pt, by omega, by omega, by omega, fun l1 us1 H2 s2 n2 hl1 hu1 df1 => ?_⟩
      have hl1n := hu1.len
      rw [List.length_map, leadsB_len] at hl1n
      refine ⟨l0, l1, _, us1, rfl, rfl, s2 _ _ upd_same, hl1, Nat.le_trans (show 1 + us1.length ≤ 1000 by omega) (by decide), fun l2 nl2 => ?_⟩
      have pA := ((same_new (o := .lst [.ref t]) nl0).trans (s2.trans (same_new (o := .lst ([.ref t] ++ us1)) nl2))).pt
      refine k l2 _ _ ((s0.trans s2).trans (same_new nl2)) ((s0.trans s2).free nl2) upd_same ?_ ?_
      rotate_left
      · intro u hu
        rcases List.mem_append.mp hu with h | h
        · rw [List.mem_singleton.mp h]
          exact Df.same ((same_new nl0).trans (s2.trans (same_new nl2))) ⟨t, ot, _, rfl, upd_same, not_⟩
        · exact (df1 u h).same (same_new nl2)
      rw [leadsR, List.map_cons]
      exact .cons (ht1t _ pA) (hu1.pt (same_new nl2).pt)
end
end K24
set_option Elab.async false
set_option linter.all false
set_option maxRecDepth 100000
set_option maxHeartbeats 4000000
namespace PM
open PySem PySem.Spec PyProof.Rows L2 ZX ZR
theorem Pt.ins {H : Hp} {a C dx : Addr} {fs : List (Str × V)} {o : HO} (h : H a = some (.ins C dx fs)) : Pt H (upd H a o) := fun b ys hb => by
  have ne : b ≠ a := fun e => by
    subst e
    rcases hb with hb | ⟨o, hb⟩ <;> rw [h] at hb <;> cases hb
  exact hb.elim (fun h => .inl (by rw [upd_ne ne]; exact h)) fun ⟨o, h⟩ => .inr ⟨o, by rw [upd_ne ne]; exact h⟩
theorem _root_.L2.Same.kp {p : Addr} {H H' : Hp} (s : Same H H') : Kp p H H' := fun b u _ e => s b u e
theorem _root_.ZX.Kp.put {p : Addr} {H H' : Hp} {o : HO} (k : Kp p H H') : Kp p H (upd H' p o) := fun b u n e => by
  rw [upd_ne n]
  exact k b u n e
theorem _root_.ZX.Kp.same {p : Addr} {H H1 H2 : Hp} (k : Kp p H H1) (s : Same H1 H2) : Kp p H H2 := fun b u n e => s _ _ (k b u n e)
/-- what the class of programs must be -/
structure PrC (K : PySem.W.Frag) (C : Addr) : Prop where
  c : Cls K C
  n1 : NoAttr K C "block"
  n2 : NoAttr K C "_rows"
  n3 : NoAttr K C "_leads"
  n4 : NoAttr K C "_names"
/-- all next places, the end's too -/
def leadsP (b : List Rw) : List (List Nat) := leadsB b 0 (rowsB b).length ++ [[]]
theorem leadsP_len (b : List Rw) : (leadsP b).length = (rowsB b).length + 1 := by
  rw [leadsP, List.length_append, leadsB_len]
  rfl
/-- of its next places' tuples one knows that they have no dict -/
def PrD (C : Addr) (H : Hp) (x : Addr) : Prop := ∃ (dx : Addr) (v : V) (ra na la : Addr) (ls : List V), H x = some (.ins C dx [("block", v), ("_rows", .ref ra), ("_names", .ref na), ("_leads", .ref la)]) ∧ H la = some (.tup ls) ∧ ∀ u ∈ ls, Df H u
theorem PrD.same {C : Addr} {H H' : Hp} {x : Addr} (s : Same H H') (h : PrD C H x) : PrD C H' x := by
  obtain ⟨dx, v, ra, na, la, ls, h1, h2, h3⟩ := h
  exact ⟨dx, v, ra, na, la, ls, s _ _ h1, s _ _ h2, fun u hu => (h3 u hu).same s⟩
/-- y: the next places of the place i -/
def NxAt (K : PySem.W.Frag) (C : Addr) (H : Hp) (x : Addr) (i : Nat) (y : V) : Prop := ∃ (dx : Addr) (v : V) (ra na la : Addr) (ls : List V), H x = some (.ins C dx [("block", v), ("_rows", .ref ra), ("_names", .ref na), ("_leads", .ref la)]) ∧ SqT K H la ls ∧ ls[i]? = some y
theorem NxAt.df {K : PySem.W.Frag} {C : Addr} {H : Hp} {x : Addr} {i : Nat} {y : V} (h : NxAt K C H x i y) (d : PrD C H x) (inj : ∀ a xs ys, SqT K H a xs → SqT K H a ys → xs = ys) : Df H y := by
  obtain ⟨dx, v, ra, na, la, ls, h1, h2, h3⟩ := h
  obtain ⟨dx', v', ra', na', la', ls', g1, g2, g3⟩ := d
  rw [h1] at g1
  have e : la' = la := by
    injection g1 with g
    injection g with _ _ g
    simp only [List.cons.injEq, Prod.mk.injEq, V.ref.injEq, true_and, and_true] at g
    exact g.2.2.2.symm
  subst e
  rw [inj _ _ _ h2 (.inl (.inl g2))] at h3
  exact g3 y (List.mem_of_getElem? h3)
/-- a program of the block b at x -/
def PrAt (K : PySem.W.Frag) (C : Addr) (H : Hp) (x : Addr) (b : List Rw) : Prop := ∃ (dx : Addr) (v : V) (ra na la : Addr) (rs ls : List V) (ys : List Str), H x = some (.ins C dx [("block", v), ("_rows", .ref ra), ("_names", .ref na), ("_leads", .ref la)]) ∧ BV K H v b ∧ Good b ∧
  SqT K H ra rs ∧ Tvs K H rs ((rowsB b).map dR) ∧ SqT K H la ls ∧ Tvs K H ls ((leadsP b).map encL) ∧ SqT K H na (ys.map V.str) ∧ IsLot ys ((rowsB b).flatMap namesR)
theorem PrAt.up {K : PySem.W.Frag} {C : Addr} {H H' : Hp} {x : Addr} {b : List Rw} (h : PrAt K C H x b) (e : ∀ o, H x = some o → H' x = some o) (pt : Pt H H') : PrAt K C H' x b := by
  obtain ⟨dx, v, ra, na, la, rs, ls, ys, h1, h2, g, h3, h4, h5, h6, h7, h8⟩ := h
  exact ⟨dx, v, ra, na, la, rs, ls, ys, e _ h1, h2.pt pt, g, pt.sq h3, h4.pt pt, pt.sq h5, h6.pt pt, pt.sq h7, h8⟩
theorem PrAt.same {K : PySem.W.Frag} {C : Addr} {H H' : Hp} {x : Addr} {b : List Rw} (h : PrAt K C H x b) (s : Same H H') : PrAt K C H' x b := h.up (fun o e => s _ _ e) s.pt
end PM
namespace K24
open PySem PySem.Spec PyProof.Rows L2 ZX PM ZR
def spInit (K : PySem.W.Frag) (C : Addr) : Sp := fun vs H Q _ => ∃ (x dx : Addr) (v : V) (b : List Rw), vs = [.ref x, v] ∧ H x = some (.ins C dx []) ∧ BV K H v b ∧ Good b ∧ ∀ H', Kp x H H' → Pt H H' → PrAt K C H' x b → PrD C H' x → Q .non H'
section
variable {P : Program} {w : World} {K : PySem.W.Frag} {mg : Str → Option Value} {base : Heap}
theorem scProgramInit : FnScope ["self", "block", "place"] ["self", "block"] (defScope sProgramInit) := ⟨rfl, rfl, rfl, by decide +kernel, rfl, by decide +kernel, by decide +kernel⟩
theorem ok_init {C f : Addr} {fd : FuncData} (F : FunD K "__init__" "Program.__init__" (defArgs sProgramInit) (defBody sProgramInit) (defScope sProgramInit) [] [] f fd) (T : Bi mg) (c : PrC K C) (C_bad_place : Cal P w K mg base "bad_place" 6 ["block", "many"] (spBad K)) (C_rows_of : Cal P w K mg base "rows_of" 5 ["block"] (spRowsOf K 4)) (C_all_names : Cal P w K mg base "all_names" 3 ["rows"] (spAllNames K)) (C_block_leads : Cal P w K mg base "block_leads" 15 ["block", "place", "behind"] (spBlockLeads K 4)) : FnOk P w K mg base CX0 16 f fd ["self", "block"] (spInit K C) := by
  refine F.ok scProgramInit (fun vs H Q E h => ?_) (fun cdv A outer s H vs Q E hr h => ?_)
  · obtain ⟨x, dx, v, b, rfl, _⟩ := h
    rfl
  · obtain ⟨x, dx, v, b, rfl, hx, tv, G, k⟩ := h
    have hr_bad_place := hr.mono (show 6 ≤ 15 by decide)
    have hr_rows_of := hr.mono (show 5 ≤ 15 by decide)
    have hr_all_names := hr.mono (show 3 ≤ 15 by decide)
    have hr_block_leads := hr
    refine ⟨_, PSs.nox (pss_cons (ps_set (i := 2) scProgramInit.nd rfl (Or.inl rfl) (pcal C_bad_place hr_bad_place rfl (pa_cons (pv 1) (pa_cons pe_int pa_nil))))
    (pss_cons (ps_if (pt_cmpR op_notN (pv 2) pe_non (nomark _)) (pss_one ps_never) pss_nil)
    (pss_cut (ps_fld (pv 0) (pv 1) rfl)
    (pss_cut (ps_fld (pv 0) (pe_callTy call_tuple_of (by rfl) T.b_tuple (by decide +kernel) (pa_cons (pcal C_rows_of hr_rows_of rfl (pa_cons (pv 1) pa_nil)) pa_nil)) rfl)
    (pss_cut (ps_fld (pv 0) (pcal C_all_names hr_all_names rfl (pa_cons (pe_fld (pv 0) rfl) pa_nil)) rfl)
    (pss_one (ps_fld (pv 0) (pe_callTy call_tuple_of (by rfl) T.b_tuple (by decide +kernel) (pa_cons (pe_op op_cat (pcal C_block_leads hr_block_leads rfl (pa_cons (pv 1) (pa_cons pe_int (pa_cons (pe_callB call_len_seq (by rfl) T.b_len (by decide +kernel) (pa_cons (pe_fld (pv 0) rfl) pa_nil)) pa_nil)))) (pe_lst (pa_cons (pe_tupF pa_nil) pa_nil))) pa_nil)) rfl))))))), ?_⟩
    have hdep := ok_depB G.ok (by decide)
    have l30 := G.l30
    refine ⟨_, rfl, v, b, 0, rfl, tv, G, fun H1 s1 => ⟨_, rfl, rfl, false, rfl, ?_⟩⟩
    have hx1 := s1 _ _ hx
    refine ⟨fun σ' H' => σ' = [some (.ref x), some v, some .non] ∧ Kp x H H' ∧ Pt H H' ∧ H' x = some (.ins C dx [("block", v)]), ?_, ?_⟩
    · refine ⟨_, rfl, _, rfl, x, C, dx, _, rfl, hx1, c.c, c.n1, (by decide), ?_⟩
      exact ⟨rfl, (Same.kp s1).put, s1.pt.trans (Pt.ins hx1), upd_same⟩
    rintro σ2 H2 ⟨rfl, kp2, p2, hx2⟩
    refine ⟨fun σ' H' => ∃ ra rs, σ' = [some (.ref x), some v, some .non] ∧ Kp x H H' ∧ Pt H H' ∧ H' x = some (.ins C dx [("block", v), ("_rows", .ref ra)]) ∧ SqT K H' ra rs ∧ Tvs K H' rs ((rowsB b).map dR), ?_, ?_⟩
    · refine ⟨_, rfl, v, b, rfl, tv.pt p2, by omega, by omega, fun l us H3 s3 nl hl hu => ?_⟩
      refine ⟨l, us, rfl, .inl ⟨SqL.of hl, fun t nt => ?_⟩⟩
      have s4 := s3.trans (same_new (o := .tup us) nt)
      have hx4 := s4 _ _ hx2
      refine ⟨_, rfl, x, C, dx, _, rfl, hx4, c.c, c.n2, (by show 1 < 1000; decide), ?_⟩
      have p5 := Pt.ins (o := .ins C dx (putF "_rows" (.ref t) [("block", v)])) hx4
      exact ⟨t, us, rfl, (kp2.same s4).put, (p2.trans s4.pt).trans p5, upd_same, p5.sq (.inl (.inl upd_same)), (hu.pt (same_new (o := .tup us) nt).pt).pt p5⟩
    rintro σ3 H3 ⟨ra, rs, rfl, kp3, p3, hx3, hra, hrs⟩
    have hrl := hrs.len
    rw [List.length_map] at hrl
    refine ⟨fun σ' H' => ∃ na ys, σ' = [some (.ref x), some v, some .non] ∧ Kp x H H' ∧ Pt H H' ∧ H' x = some (.ins C dx [("block", v), ("_rows", .ref ra), ("_names", .ref na)]) ∧ SqT K H' ra rs ∧ Tvs K H' rs ((rowsB b).map dR) ∧ SqT K H' na (ys.map V.str) ∧ IsLot ys ((rowsB b).flatMap namesR), ?_, ?_⟩
    · refine ⟨_, rfl, x, C, dx, _, _, rfl, hx3, c.c, c.n2, rfl, ra, rs, rowsB b, rfl, .inr hra, hrs, ok_names_B G.ok, by omega, fun na ys H4 s4 nn ly hn => ?_⟩
      have hx4 := s4 _ _ hx3
      refine ⟨_, rfl, x, C, dx, _, rfl, hx4, c.c, c.n4, (by show 2 < 1000; decide), ?_⟩
      have p5 := Pt.ins (o := .ins C dx (putF "_names" (.ref na) [("block", v), ("_rows", .ref ra)])) hx4
      exact ⟨na, ys, rfl, (kp3.same s4).put, (p3.trans s4.pt).trans p5, upd_same, (s4.pt.trans p5).sq hra, hrs.pt (s4.pt.trans p5), p5.sq (.inl (.inl hn)), ly⟩
    rintro σ4 H4 ⟨na, ys, rfl, kp4, p4, hx4, hra, hrs, hna, ly⟩
    refine ⟨_, rfl, _, rfl, x, C, dx, _, _, rfl, hx4, c.c, c.n2, rfl, ra, rs, rfl, .inr hra, v, b, 0, (rowsB b).length, by rw [← hrl]; rfl, tv.pt p4, by omega, by omega, by omega, fun l6 ls H6 s6 n6 h6 t6 df6 => ?_⟩
    have hll := t6.len
    rw [List.length_map, leadsB_len] at hll
    refine ⟨by decide, fun t0 o0 no0 nt0 => ⟨by show 1 ≤ sizeLine; decide, fun l7 nl7 => ?_⟩⟩
    have s7 := (s6.trans (same_new (o := .frz o0 (.tup [])) nt0)).trans (same_new (o := .lst [.ref t0]) nl7)
    refine ⟨l6, l7, ls, _, rfl, rfl, ((same_new (o := .frz o0 (.tup [])) nt0).trans (same_new (o := .lst [.ref t0]) nl7)) _ _ h6, upd_same, Nat.le_trans (show ls.length + 1 ≤ 1000 by omega) (by decide), fun l8 nl8 => ?_⟩
    refine ⟨l8, _, rfl, .inl ⟨SqL.of upd_same, fun t9 nt9 => ?_⟩⟩
    have s9 := (s7.trans (same_new (o := .lst (ls ++ [.ref t0])) nl8)).trans (same_new (o := .tup (ls ++ [.ref t0])) nt9)
    have hx9 := s9 _ _ hx4
    refine ⟨_, rfl, x, C, dx, _, rfl, hx9, c.c, c.n3, (by show 3 < 1000; decide), ?_⟩
    have p10 := Pt.ins (o := .ins C dx (putF "_leads" (.ref t9) [("block", v), ("_rows", .ref ra), ("_names", .ref na)])) hx9
    have pz := s9.pt.trans p10
    refine k _ ((kp4.same s9).put) (p4.trans pz) ⟨dx, v, ra, na, t9, rs, ls ++ [.ref t0], ys, ?_, tv.pt (p4.trans pz), G, pz.sq hra, hrs.pt pz, p10.sq (.inl (.inl upd_same)), ?_, pz.sq hna, ly⟩ ?_
    · rw [upd_same]
      rfl
    · rw [leadsP, List.map_append]
      have py := (((same_new (o := .frz o0 (.tup [])) nt0).trans (same_new (o := .lst [.ref t0]) nl7)).trans ((same_new (o := .lst (ls ++ [.ref t0])) nl8).trans (same_new (o := .tup (ls ++ [.ref t0])) nt9))).pt.trans p10
      refine Tvs.app (t6.pt py) (.cons (.tup ?_ .nil) .nil)
      exact (((same_new (o := .lst [.ref t0]) nl7).trans ((same_new (o := .lst (ls ++ [.ref t0])) nl8).trans (same_new (o := .tup (ls ++ [.ref t0])) nt9))).pt.trans p10).sq (.inl (.inr ⟨o0, upd_same⟩))
    · have nx9 : t9 ≠ x := fun e => by
        rw [e] at nt9
        have := ((s7.trans (same_new (o := .lst (ls ++ [.ref t0])) nl8)) _ _ hx4)
        rw [nt9] at this
        cases this
      refine ⟨dx, v, ra, na, t9, ls ++ [.ref t0], upd_same, ?_, fun u hu => ?_⟩
      · rw [upd_ne nx9]
        exact upd_same
      · have kx : ∀ {H5 : Hp} {y : V} {fs : List (Str × V)}, H5 x = some (.ins C dx fs) → Df H5 y → Df (upd H5 x (.ins C dx (putF "_leads" (.ref t9) [("block", v), ("_rows", .ref ra), ("_names", .ref na)]))) y := fun hx5 d => d.keep fun a o xs e => by
          rw [upd_ne (fun z => by rw [z, hx5] at e; cases e)]
          exact e
        refine kx hx9 ?_
        rcases List.mem_append.mp hu with h | h
        · exact (df6 u h).same (((same_new nt0).trans (same_new nl7)).trans ((same_new nl8).trans (same_new nt9)))
        · rw [List.mem_singleton.mp h]
          exact Df.same ((same_new nl7).trans ((same_new nl8).trans (same_new nt9))) ⟨t0, o0, _, rfl, upd_same, no0⟩
end
end K24
set_option Elab.async false
set_option linter.all false
set_option maxRecDepth 100000
set_option maxHeartbeats 4000000
/-! Rules of my own: raise C(), C an own class with an own __init__ that keeps nothing; functions that may let something out. -/
namespace ZR
open PySem PySem.Spec PyProof.Rows L2 ZX
section
variable {X : Cx} {x : Str} {p pos : Pos} {C fI : Addr} {k : Nat} {fd : FuncData} {ps : List Str} {sp : Sp}
def tMkN (C : Addr) (sp : Sp) : TE := fun _ H Q => ∀ a, H a = none → sp [.ref a] (upd H a (exo a C none)) (fun v H2 => v = .non ∧ H2 a = some (exo a C none) ∧ Q (.ref a) (upd H2 a (ExO (.ref C) a))) fun _ _ _ => False
theorem pe_oexN (T : OexC X.K C) (iC : PySem.W.findIn X.K (.ref C) "__init__" = some (some (.ref fI))) (tI : PySem.W.typeIn X.K (.ref fI) = some (.type "function"))
    (F1 : FnOk X.prog X.w X.K X.mg X.base CX0 k fI fd ps sp) (hi : ∀ vs H Q Q' E, (∀ v H', Q v H' → Q' v H') → sp vs H Q E → sp vs H Q' E) (hr : Room (k + 1) X.A) (hb : Binds X.K fd ps []) (hg : Gl X x) (hm : X.mg x = some (.ref C)) (hdb : (x == ("__debug__" : Str)) = false := by decide) :
    PE X (.Call (.Name x p) [] [] pos) (tMkN C sp) := by
  refine ⟨fun pins s σ H Q I h => ?_⟩
  refine wpAny_mono ((pe_oex0 T iC tI F1 hr hb hg hm hdb).run pins s σ H (fun v H2 => ∃ a, v = .ref a ∧ H2 a = some (exo a C none) ∧ Q (.ref a) (upd H2 a (ExO (.ref C) a))) I ⟨Nat.zero_le _, fun a n => ?_⟩) (fun u s' hu => ?_) fun _ _ z => z
  · exact hi _ _ _ _ _ (fun v H' q => ⟨q.1, a, rfl, q.2.1, q.2.2⟩) (h a n)
  · obtain ⟨v, H2, I2, r, a, rfl, ha, q⟩ := hu
    obtain ⟨t1, hg⟩ := exo_at I2.hok ha
    refine ⟨.ref a, upd H2 a (ExO (.ref C) a), I2.write (x := a) (e := a) (h' := s'.heap) (t' := s'.toks) (by rw [ha]; trivial) (.inl rfl) (fun _ _ _ z => z) ⟨_, hg⟩ ?_, r, q⟩
    exact exO_ok hg ⟨rfl, rfl⟩ rfl rfl rfl (show 4 < 6 by decide)
end
end ZR
set_option Elab.async false
set_option linter.all false
set_option maxRecDepth 100000
set_option maxHeartbeats 4000000
/-! Calls of defs that may let something out. -/
namespace PM
open PySem PySem.Spec PyProof.Rows L2 ZX ZR
/-- a def that may be called by its name and may let something out -/
structure CalX (P : Program) (w : World) (K : PySem.W.Frag) (mg : Str → Option Value) (base : Heap) (x : Str) (k : Nat) (ps : List Str) (sp : Sp) : Prop where
  ex : ∃ (f : Addr) (fd : FuncData), FnOk P w K mg base (L2.CX P w) k f fd ps sp ∧ mg x = some (.ref f) ∧ PySem.W.keepIn K (.ref f) = true ∧ Binds K fd ps []
section
variable {X : Cx} {e : Expr} {es : List Expr} {t : TA} {x : Str} {p pos : Pos} {k : Nat} {ps : List Str} {sp : Sp}
theorem pcalS {W : WX} (C : CalX X.prog X.w X.K X.mg X.base x k ps sp) (hr : Room k X.A) (tk : Takes X W) (hg : Gl X x) (ha : PA X (e :: es) t)
    (hdb : (x == ("__debug__" : Str)) = false := by decide) (he : starEach (e :: es) X.env = (false, eval e X.env) :: starEach es X.env := by rfl) (hpl : (backTo pos (starEach es X.env)).any (·.1) = false := by rfl) :
    PE X (.Call (.Name x p) (e :: es) [] pos) (tCallS sp (WE W) t) := by
  obtain ⟨f, fd, G, g, kp, b⟩ := C.ex
  exact pe_callS G hr hg g kp b (fun σ => passAt tk σ) ha hdb he hpl
/-- a call that lets nothing out -/
theorem pcalN (C : CalX X.prog X.w X.K X.mg X.base x k ps sp) (hr : Room k X.A) (hg : Gl X x) (ha : PA X (e :: es) t)
    (hdb : (x == ("__debug__" : Str)) = false := by decide) (he : starEach (e :: es) X.env = (false, eval e X.env) :: starEach es X.env := by rfl) (hpl : (backTo pos (starEach es X.env)).any (·.1) = false := by rfl) :
    PE X (.Call (.Name x p) (e :: es) [] pos) (tCall sp [] E0 t) := by
  obtain ⟨f, fd, G, g, kp, b⟩ := C.ex
  refine pe_call G hr hg g kp b .nil (fun pins σ H s e s' I c => ?_) ha hdb he hpl
  obtain ⟨_, _, _, _, _, _, _, _, _, _, _, h⟩ := c
  exact h.2.elim
end
end PM
set_option Elab.async false
set_option linter.all false
set_option maxRecDepth 100000
set_option maxHeartbeats 4000000
/-! Calls that leave defaults out; methods that let nothing out. -/
namespace PM
open PySem PySem.Spec PyProof.Rows L2 ZX ZR
/-- a def that may be called by its name, its last parameters left to their defaults -/
structure CalV (P : Program) (w : World) (K : PySem.W.Frag) (mg : Str → Option Value) (base : Heap) (x : Str) (k : Nat) (ps : List Str) (dvs : List V) (sp : Sp) : Prop where
  ex : ∃ (f : Addr) (fd : FuncData) (ds : List Value), FnOk P w K mg base CX0 k f fd ps sp ∧ mg x = some (.ref f) ∧ PySem.W.keepIn K (.ref f) = true ∧ Binds K fd ps ds ∧ Vals dvs ds
/-- a method of the class at C that lets nothing out -/
structure MCal (P : Program) (w : World) (K : PySem.W.Frag) (mg : Str → Option Value) (base : Heap) (C : Addr) (m : Str) (k : Nat) (ps : List Str) (sp : Sp) : Prop where
  c : Cls K C
  ex : ∃ (f : Addr) (fd : FuncData), FnOk P w K mg base CX0 k f fd ps sp ∧ Meth K C m f ∧ Binds K fd ps []
section
variable {X : Cx} {e o : Expr} {es : List Expr} {t : TA} {ta : TE} {x m : Str} {p pos apos : Pos} {k : Nat} {C : Addr} {ps : List Str} {dvs : List V} {sp : Sp} {pl : Sem Bool}
theorem pcalV (C : CalV X.prog X.w X.K X.mg X.base x k ps dvs sp) (hr : Room k X.A) (hg : Gl X x) (ha : PA X (e :: es) t)
    (hdb : (x == ("__debug__" : Str)) = false := by decide) (he : starEach (e :: es) X.env = (false, eval e X.env) :: starEach es X.env := by rfl) (hpl : (backTo pos (starEach es X.env)).any (·.1) = false := by rfl) :
    PE X (.Call (.Name x p) (e :: es) [] pos) (tCall sp dvs E0 t) := by
  obtain ⟨f, fd, ds, G, g, kp, b, r⟩ := C.ex
  exact pe_call G hr hg g kp b r pass0 ha hdb he hpl
theorem pmc (c : MCal X.prog X.w X.K X.mg X.base C m k ps sp) (hr : Room k X.A) (ho : PE X o ta) (ha : PA X (e :: es) t)
    (hst : starEach (e :: es) X.env = (false, eval e X.env) :: starEach es X.env := by rfl) (hpl : (backTo pos (starEach es X.env)).any (·.1) = false := by rfl)
    (ht : eval (.Call (.Attribute o m apos) (e :: es) [] pos) X.env = (do let ov ← eval o X.env; standAt apos.atName; let (f, first) ← holding [ov] (getMethod ov m pl); callWith pos f first (backTo pos (starEach (e :: es) X.env)) (backToKw pos (keywordEach [] X.env))) := by rfl) : PE X (.Call (.Attribute o m apos) (e :: es) [] pos) (tMeth C m sp [] E0 ta t) := by
  obtain ⟨f, fd, G, mt, b⟩ := c.ex
  exact pe_meth ho c.c mt G hr b .nil pass0 ha hst hpl ht
theorem pmc0 (c : MCal X.prog X.w X.K X.mg X.base C m k ps sp) (hr : Room k X.A) (ho : PE X o ta)
    (ht : eval (.Call (.Attribute o m apos) [] [] pos) X.env = (do let ov ← eval o X.env; standAt apos.atName; let (f, first) ← holding [ov] (getMethod ov m pl); callWith pos f first (backTo pos (starEach [] X.env)) (backToKw pos (keywordEach [] X.env))) := by rfl) : PE X (.Call (.Attribute o m apos) [] [] pos) (tMeth C m sp [] E0 ta tNil) := by
  obtain ⟨f, fd, G, mt, b⟩ := c.ex
  exact pe_meth0 ho c.c mt G hr b .nil pass0 ht
end
end PM
set_option Elab.async false
set_option linter.all false
set_option maxRecDepth 100000
set_option maxHeartbeats 4000000
/-! List comprehensions with a test. -/
namespace PM
open PySem PySem.Spec PyProof.Rows L2 ZX ZR
section
variable {J : It} {zs : List V} {St : Hp → Prop} {g : TG} {te : TE} {tt : TT} {vs : List Nat} {σ : L2.St} {H1 : Hp} {Q : VK}
theorem lc_overF {α : Type} {as : List α} {Rel : Hp → α → V → Prop} (f : α → Bool) (O : IterOf J zs St) (hz : as.length = zs.length) (hRel : ∀ c y H H', Pt H H' → Rel H c y → Rel H' c y) (hlen : zs.length < sizeLine)
    (st : ∀ H', Same H1 H' → Pt H1 H' → St H')
    (step : ∀ (i : Nat) x c, zs[i]? = some x → as[i]? = some c → ∀ H', Same H1 H' → Pt H1 H' → ∀ (R : VK) (N : Hp → Prop), (f c = true → ∀ y H'', Same H' H'' → Rel H'' c y → R y H'') → (f c = false → ∀ H'', Same H' H'' → N H'') →
      g x (wipe σ vs) H' fun σ2 H2 => wipe σ2 vs = wipe σ vs ∧ tt σ2 H2 fun b H3 => if b = true then te σ2 H3 R else N H3)
    (fin : ∀ D ys H', Same H1 H' → Pt H1 H' → H1 D = none → H' D = some (.lst ys) → All2 (Rel H') (as.filter f) ys → Q (.ref D) H') :
    tLcS (fun _ _ R => R J H1) g tt te vs σ H1 Q := by
  rw [lcS]
  intro D hD
  refine ⟨fun i m H => m = zs.length - i ∧ i ≤ zs.length ∧ Same H1 H ∧ Pt H1 H ∧ ∃ ys, H D = some (.lst ys) ∧ All2 (Rel H) ((as.take i).filter f) ys, ⟨zs.length, rfl, Nat.zero_le _, same_new hD, Pt.new hD, [], upd_same, by rw [List.take_zero]; exact .nil⟩, ?_⟩
  rintro i m H ⟨rfl, hi, sm, pt, ys, hys, all⟩
  have hst := st H sm pt
  by_cases hlt : i < zs.length
  · refine .inr ⟨O.go i H hst hlt, fun H' => i + 1 ≤ zs.length ∧ Same H1 H' ∧ Pt H1 H' ∧ ∃ ys, H' D = some (.lst ys) ∧ All2 (Rel H') ((as.take (i + 1)).filter f) ys, fun H' h => ⟨zs.length - (i + 1), by omega, rfl, h⟩, fun x H' y => ?_⟩
    obtain ⟨rfl, hx⟩ := O.yld i H x H' hst hlt y
    have hia : i < as.length := by omega
    have hc : as[i]? = some as[i] := List.getElem?_eq_getElem hia
    have ptk : as.take (i + 1) = as.take i ++ [as[i]] := by
      rw [List.take_succ, hc]
      rfl
    refine step i x as[i] hx hc H' sm pt _ _ (fun ef y H'' s2 r => ?_) (fun ef H'' s2 => ?_)
    · have hD2 := s2 _ _ hys
      have pD : Pt H'' (upd H'' D (.lst (ys ++ [y]))) := Pt.lst hD2
      have hl2 : ys.length < sizeLine := by
        have := all.len
        have := List.length_filter_le f (as.take i)
        rw [List.length_take] at this
        omega
      refine ⟨ys, hD2, hl2, hlt, fun b o e => by rw [upd_ne (ne_of_none e hD)]; exact s2 _ _ (sm _ _ e), (pt.trans s2.pt).trans pD, ys ++ [y], upd_same, ?_⟩
      rw [ptk, List.filter_append, List.filter_cons, if_pos ef, List.filter_nil]
      exact All2.snoc (hRel _ _ _ _ pD r) (all.imp fun a b q => hRel _ _ _ _ (s2.pt.trans pD) q)
    · refine ⟨hlt, sm.trans s2, pt.trans s2.pt, ys, s2 _ _ hys, ?_⟩
      rw [ptk, List.filter_append, List.filter_cons, if_neg (by rw [ef]; exact Bool.false_ne_true), List.filter_nil, List.append_nil]
      exact all.imp fun a b q => hRel _ _ _ _ s2.pt q
  · have e : i = zs.length := by omega
    subst e
    rw [← hz, List.take_length] at all
    exact .inl ⟨O.stop H hst, fin D ys H sm pt hD hys all⟩
end
end PM
set_option Elab.async false
set_option linter.all false
set_option maxRecDepth 100000
set_option maxHeartbeats 4000000
/-! A run's notes: things, frames, functions, what stands in the heap. -/
namespace PM
open PySem PySem.Spec PyProof.Rows L2 ZX ZR
/-- what a name holds: a note's number, or a worth -/
inductive Th where
  | note (n : Nat)
  | worth (v : V)
  deriving DecidableEq
def thV : Th → List V
  | .note n => [.str "note", .int (n : Nat)]
  | .worth v => [.str "worth", v]
def ThAt (K : PySem.W.Frag) (H : Hp) (v : V) (t : Th) : Prop := ∃ a, v = .ref a ∧ SqT K H a (thV t)
theorem ThAt.pt {K : PySem.W.Frag} {H H' : Hp} {v : V} {t : Th} (p : Pt H H') (h : ThAt K H v t) : ThAt K H' v t := by
  obtain ⟨a, e, h⟩ := h
  exact ⟨a, e, p.sq h⟩
/-! ### frames -/
/-- a list or a dict -/
def IsM (o : Option HO) : Prop := (∃ xs, o = some (.lst xs)) ∨ ∃ kvs, o = some (.dK kvs)
def Mks (M : List Addr) (H : Hp) : Prop := ∀ b ∈ M, IsM (H b)
/-- all but M stands, and M's are lists and dicts -/
structure Fz (M : List Addr) (H H' : Hp) : Prop where
  keep : ∀ b o, b ∉ M → H b = some o → H' b = some o
  mks : Mks M H'
section
variable {M M' : List Addr} {H H1 H2 H' : Hp}
theorem Fz.refl (m : Mks M H) : Fz M H H := ⟨fun _ _ _ h => h, m⟩
theorem Fz.trans (a : Fz M H H1) (b : Fz M H1 H2) : Fz M H H2 := ⟨fun c o n h => b.keep c o n (a.keep c o n h), b.mks⟩
theorem Mks.same (m : Mks M H) (s : Same H H1) : Mks M H1 := fun b hb => by
  rcases m b hb with ⟨xs, e⟩ | ⟨kvs, e⟩
  · exact .inl ⟨xs, s _ _ e⟩
  · exact .inr ⟨kvs, s _ _ e⟩
theorem _root_.L2.Same.fz (s : Same H H1) (m : Mks M H) : Fz M H H1 := ⟨fun b o _ h => s b o h, m.same s⟩
theorem Mks.put {a : Addr} {o : HO} (m : Mks M H) (i : IsM (some o)) : Mks M (upd H a o) := fun b hb => by
  by_cases e : b = a
  · subst e
    rw [upd_same]
    exact i
  · rw [upd_ne e]
    exact m b hb
theorem Fz.put {a : Addr} {o : HO} (m : Mks M H) (ha : a ∈ M) (i : IsM (some o)) : Fz M H (upd H a o) := ⟨fun b u n e => by
  rw [upd_ne (fun z => n (by rw [z]; exact ha))]
  exact e, m.put i⟩
/-- a new thing is changed -/
theorem Fz.putN {a : Addr} {o : HO} (f : Fz M H H1) (n : H a = none) (i : IsM (some o)) : Fz M H (upd H1 a o) := ⟨fun b u nb e => by
  rw [upd_ne (ne_of_none e n)]
  exact f.keep b u nb e, f.mks.put i⟩
theorem Fz.pt (f : Fz M H H1) (m : Mks M H) : Pt H H1 := fun b ys hb => by
  have nm : b ∉ M := fun hm => by
    rcases m b hm with ⟨xs, e⟩ | ⟨xs, e⟩ <;> rcases hb with hb | ⟨o, hb⟩ <;> rw [e] at hb <;> cases hb
  exact hb.elim (fun h => .inl (f.keep b _ nm h)) fun ⟨o, h⟩ => .inr ⟨o, f.keep b _ nm h⟩
theorem Fz.free (f : Fz M H H1) {b : Addr} (h : H1 b = none) : H b = none := by
  by_cases m : b ∈ M
  · rcases f.mks b m with ⟨xs, e⟩ | ⟨xs, e⟩ <;> rw [h] at e <;> cases e
  · cases e : H b with
    | none => rfl
    | some u =>
      rw [f.keep b u m e] at h
      cases h
theorem Fz.mono (f : Fz M H H1) (hs : ∀ b ∈ M, b ∈ M') (m' : Mks M' H) : Fz M' H H1 := ⟨fun b o n h => f.keep b o (fun z => n (hs b z)) h, fun b hb => by
  by_cases e : b ∈ M
  · exact f.mks b e
  · rcases m' b hb with ⟨xs, h⟩ | ⟨xs, h⟩
    · exact .inl ⟨xs, f.keep b _ e h⟩
    · exact .inr ⟨xs, f.keep b _ e h⟩⟩
theorem Mks.left {N : List Addr} (m : Mks (M ++ N) H) : Mks M H := fun b hb => m b (List.mem_append_left _ hb)
theorem Mks.right {N : List Addr} (m : Mks (M ++ N) H) : Mks N H := fun b hb => m b (List.mem_append_right _ hb)
theorem Mks.app {N : List Addr} (m : Mks M H) (n : Mks N H) : Mks (M ++ N) H := fun b hb => (List.mem_append.mp hb).elim (m b) (n b)
/-- a thing that is neither a list nor a dict does not stand in M -/
theorem Mks.no (m : Mks M H) {b : Addr} {o : HO} (h : H b = some o) (n : ¬ IsM (some o)) : b ∉ M := fun hb => by
  have := m b hb
  rw [h] at this
  exact n this
end
/-! ### what is called -/
/-- what may be called at f, as long as R stands in the heap -/
structure Callee (P : Program) (w : World) (K : PySem.W.Frag) (mg : Str → Option Value) (base : Heap) (k : Nat) (f : Addr) (R : Hp → Prop) (sp : Sp) : Prop where
  at_ : ∀ {X : Cx} {pins : List (Addr × Obj)} {σ : L2.St} {H : Hp} {s : Shared}, X.K = K → Inv X pins σ H s → R H → PySem.W.FnAt f s.heap
  run : ∀ {X : Cx} {pins : List (Addr × Obj)} {σ : L2.St} {H : Hp} {s : Shared} {us : List Value} {vs : List V} {Q : VK}, X.prog = P → X.w = w → X.K = K → X.mg = mg → X.base = base → Inv X pins σ H s → R H → Room k X.A → Vals vs us → sp vs H Q E0 →
    wpAny (model X.prog X.w) X.A (call (.ref f) us) (EP X pins σ Q) X.xe s
/-- f(e, ..), f a local name -/
def tCallV (i : Nat) (S : Addr → (Hp → Prop) → Sp → Prop) (t : TA) : TE := fun σ H Q => ∃ f R sp, σ[i]? = some (some (.ref f)) ∧ S f R sp ∧ t σ H fun vs H1 => R H1 ∧ sp vs H1 Q E0
theorem pe_callV {X : Cx} {S : Addr → (Hp → Prop) → Sp → Prop} {k i : Nat} {x : Str} {p pos : Pos} {e : Expr} {es : List Expr} {t : TA} (C : ∀ f R sp, S f R sp → Callee X.prog X.w X.K X.mg X.base k f R sp) (hr : Room k X.A) (hN : X.N[i]? = some x) (hv : Vis X.env.scope x) (ha : PA X (e :: es) t)
    (hd : (x == ("__debug__" : Str)) = false := by decide) (hcd : (x == ("__classdict__" : Str)) = false := by decide)
    (he : starEach (e :: es) X.env = (false, eval e X.env) :: starEach es X.env := by rfl) (hpl : (backTo pos (starEach es X.env)).any (·.1) = false := by rfl) : PE X (.Call (.Name x p) (e :: es) [] pos) (tCallV i S t) := by
  refine ⟨fun pins s σ H Q I h => ?_⟩
  obtain ⟨f, R, sp, hs, hS, ht⟩ := h
  refine wpAny_Call_Name_kw (thn ((pe_var (pos := p) hN hv hd hcd).run pins s σ H (fun v H1 => v = .ref f ∧ H1 = H) I ⟨.ref f, hs, rfl, rfl⟩) fun u s1 ⟨v, H1, I1, r1, ev, eH⟩ => ?_)
  subst ev
  subst eH
  obtain rfl : u = Value.ref f := r1
  rw [he]
  refine PySem.W.callWith_of (P := PySem.W.FnAt f) (by show ((false || (backTo pos (starEach es X.env)).any (·.1)) || false) = false; rw [hpl]; rfl) (fun h hf => ?_) (PySem.Calls.evalArgs_plain ?_)
  · obtain ⟨c, od, fd, sl, ho⟩ := hf
    exact ⟨.frame, .inl rfl, (PySem.W.Looks.ld (part := none) ho).andThen .now⟩
  · have q := ha.run pos pins s1 σ _ _ I1 ht
    rw [he] at q
    exact thn q fun us s2 ⟨vs, H2, I2, r2, hR, hsp⟩ => ⟨(C f R sp hS).at_ rfl I2 hR, (C f R sp hS).run rfl rfl rfl rfl rfl I2 hR hr r2 hsp⟩
/-- a def of the text -/
theorem callee_def {P : Program} {w : World} {K : PySem.W.Frag} {mg : Str → Option Value} {base : Heap} {k : Nat} {f : Addr} {fd : FuncData} {ps : List Str} {sp : Sp} (F : FnOk P w K mg base CX0 k f fd ps sp) (hb : Binds K fd ps []) (hf : PySem.W.fnIn K f = true) : Callee P w K mg base k f (fun _ => True) sp := by
  refine ⟨fun {X pins σ H s} eK I _ => ?_, fun {X pins σ H s us vs Q} e1 e2 e3 e4 e5 I _ hr r h => ?_⟩
  · subst eK
    unfold PySem.W.fnIn at hf
    split at hf
    · rename_i oc od fd' sl ho
      exact ⟨oc, od, fd', sl, I.kIn _ _ ho⟩
    · cases hf
  · subst e1 e2 e3 e4 e5
    refine run_fn (dvs := []) F hr hb .nil pass0 I r ?_
    rw [List.append_nil]
    exact h
end PM
set_option Elab.async false
set_option linter.all false
set_option maxRecDepth 100000
set_option maxHeartbeats 4000000
/-! A run's notes in the heap; Holding._now, held. -/
namespace PM
open PySem PySem.Spec PyProof.Rows L2 ZX ZR
/-- a family of strangers' functions, by their ops: what they keep account of (L), the lists and dicts that are theirs (out), what worths they take and give (Ok), what a call does -/
structure Fam (P : Program) (w : World) (K : PySem.W.Frag) (mg : Str → Option Value) (base : Heap) where
  L : Type
  At : L → Hp → Prop
  out : List Addr
  lev : Nat
  Ok : V → Prop
  call : Str → List V → L → V → L → Prop
  Fn : Str → Addr → Hp → Prop
  ok0 : Ok (.int 0)
  okI : ∀ i, Ok (.int i)
  atK : ∀ {l M H H'}, At l H → Mks M H → Fz M H H' → (∀ b ∈ out, b ∉ M) → At l H'
  fnK : ∀ {o f M H H'}, Fn o f H → Mks M H → Fz M H H' → Fn o f H'
  callee : ∀ o f, Callee P w K mg base lev f (Fn o f) (fun vs H Q _ => ∃ t ws l, vs = [.ref t] ∧ SqT K H t ws ∧ ws.length ≤ 3 ∧ (∀ v ∈ ws, Ok v) ∧ Mks out H ∧ At l H ∧ ∀ v l' H', call o ws l v l' → Ok v → Fz out H H' → At l' H' → Q v H')
/-- the addresses of a run's notes -/
structure Ad where
  x : Addr
  dx : Addr
  fa : Addr
  ha : Addr
  ma : Addr
  wa : Addr
  oa : Addr
  pa : Addr
  ta : Addr
def Ad.own (A : Ad) : List Addr := [A.ha, A.ma, A.wa, A.oa, A.pa, A.ta]
def fsN (A : Ad) : List (Str × V) := [("functions", .ref A.fa), ("heads", .ref A.ha), ("made", .ref A.ma), ("worths", .ref A.wa), ("order", .ref A.oa), ("printed", .ref A.pa), ("trail", .ref A.ta)]
/-- what stood before a step: the name written, what it held, the numbers of notes made, worked, said -/
structure Mark where
  name : Option Str
  head : Option Th
  made : Nat
  worked : Nat
  said : Nat
/-- what a run's notes are -/
structure NS where
  heads : Str → Option Th
  made : List (Str × List Th)
  worths : List (Nat × V)
  printed : List V
  trail : List Mark
def wKV (ws : List (Nat × V)) : List (Key × V) := ws.map fun p => (.inl (p.1 : Int), p.2)
theorem valV_w (n : Nat) : ∀ ws : List (Nat × V), valV (wKV ws) (.inl (n : Int)) = ws.lookup n
  | [] => rfl
  | (k, v) :: ws => by
    by_cases e : k = n
    · subst e
      show valV ((.inl ((k : Nat) : Int), v) :: wKV ws) _ = _
      rw [valV_pos rfl, List.lookup_cons_self]
    · show valV ((.inl ((k : Nat) : Int), v) :: wKV ws) _ = _
      rw [valV_neg (fun z => e (by injection z with z; omega)), valV_w n ws, List.lookup_cons]
      have : (n == k) = false := by
        rw [beq_eq_false_iff_ne]
        exact fun z => e z.symm
      rw [this]
theorem look_mem {n : Nat} {v : V} : ∀ {ws : List (Nat × V)}, ws.lookup n = some v → (n, v) ∈ ws
  | (k, u) :: ws, h => by
    rw [List.lookup_cons] at h
    by_cases e : (n == k) = true
    · rw [e] at h
      cases h
      rw [eq_of_beq e]
      exact List.mem_cons_self
    · rw [Bool.eq_false_iff.mpr e] at h
      exact List.mem_cons_of_mem _ (look_mem h)
/-- what of a thing is known now -/
def nowS (S : NS) : Th → Th
  | .note n => match S.worths.lookup n with
    | some v => .worth v
    | none => .note n
  | .worth v => .worth v
theorem nowS_none {S : NS} {n : Nat} (e : S.worths.lookup n = none) : nowS S (.note n) = .note n := by
  show (match S.worths.lookup n with
    | some v => Th.worth v
    | none => Th.note n) = _
  rw [e]
theorem nowS_some {S : NS} {n : Nat} {v : V} (e : S.worths.lookup n = some v) : nowS S (.note n) = .worth v := by
  show (match S.worths.lookup n with
    | some v => Th.worth v
    | none => Th.note n) = _
  rw [e]
def heldS (S : NS) (x : Str) : Th := nowS S ((S.heads x).getD (.worth (.int 0)))
def HdR (K : PySem.W.Frag) (H : Hp) : Option V → Option Th → Prop
  | some v, some t => ThAt K H v t
  | none, none => True
  | _, _ => False
/-- a thing, or None -/
def HdV (K : PySem.W.Frag) (H : Hp) (v : V) : Option Th → Prop
  | some t => ThAt K H v t
  | none => v = .non
def nmV : Option Str → V
  | some x => .str x
  | none => .non
def MkAt (K : PySem.W.Frag) (H : Hp) (u : V) (m : Mark) : Prop := ∃ a v, u = .ref a ∧ SqT K H a [nmV m.name, v, .int (m.made : Nat), .int (m.worked : Nat), .int (m.said : Nat)] ∧ HdV K H v m.head
/-- a note in the heap: its op, its parts -/
def MdAt (K : PySem.W.Frag) (H : Hp) (u : V) (m : Str × List Th) : Prop := ∃ a b us, u = .ref a ∧ SqT K H a [.str m.1, .ref b] ∧ SqT K H b us ∧ All2 (ThAt K H) us m.2
section
variable {P : Program} {w : World} {K : PySem.W.Frag} {mg : Str → Option Value} {base : Heap}
/-- it hangs together -/
structure WfS (fm : Fam P w K mg base) (F : List (Str × Addr)) (ns : List Str) (S : NS) : Prop where
  ops : ∀ m ∈ S.made, m.1 ∈ F.map (·.1)
  low : ∀ k m, S.made[k]? = some m → m.2.length ≤ 3 ∧ ∀ n, Th.note n ∈ m.2 → n < k
  hlow : ∀ x n, S.heads x = some (.note n) → n < S.made.length
  hin : ∀ x t, S.heads x = some t → x ∈ ns
  wn : (S.worths.map (·.1)).Nodup
  wlow : ∀ k ∈ S.worths.map (·.1), k < S.made.length
  okh : ∀ x v, S.heads x = some (.worth v) → fm.Ok v
  okm : ∀ m ∈ S.made, ∀ v, Th.worth v ∈ m.2 → fm.Ok v
  okw : ∀ p ∈ S.worths, fm.Ok p.2
  szm : S.made.length ≤ 50000
  szp : S.printed.length ≤ 50000
  szt : S.trail.length ≤ 50000
/-- the notes S stand at A -/
structure NtAt (fm : Fam P w K mg base) (C : Addr) (F : List (Str × Addr)) (ns : List Str) (H : Hp) (A : Ad) (S : NS) (l : fm.L) : Prop where
  hx : H A.x = some (.ins C A.dx (fsN A))
  hf : H A.fa = some (.dK (F.map fun p => (.inr p.1, .ref p.2)))
  fns : ∀ p ∈ F, fm.Fn p.1 p.2 H
  hh : ∃ (kvs : List (Key × V)) (ks : List Str), H A.ha = some (.dK kvs) ∧ kvs.map (·.1) = ks.map Sum.inr ∧ ks.Nodup ∧ (∀ x ∈ ks, x ∈ ns) ∧ ∀ x, HdR K H (valV kvs (.inr x)) (S.heads x)
  hm : ∃ us : List V, H A.ma = some (.lst us) ∧ All2 (MdAt K H) us S.made
  hw : H A.wa = some (.dK (wKV S.worths))
  ho : H A.oa = some (.lst (S.worths.map fun p => .int (p.1 : Nat)))
  hp : H A.pa = some (.lst S.printed)
  ht : ∃ us : List V, H A.ta = some (.lst us) ∧ All2 (MkAt K H) us S.trail
  nd : (A.fa :: (A.own ++ fm.out)).Nodup
  mo : Mks fm.out H
  at_ : fm.At l H
  wf : WfS fm F ns S
variable {fm : Fam P w K mg base} {C : Addr} {F : List (Str × Addr)} {ns : List Str} {H H' : Hp} {A : Ad} {S : NS} {l : fm.L}
theorem HdR.pt {o : Option V} {t : Option Th} (p : Pt H H') (h : HdR K H o t) : HdR K H' o t := by
  cases o <;> cases t <;> first | exact h | exact ThAt.pt p h
theorem MdAt.pt {u : V} {m : Str × List Th} (p : Pt H H') (h : MdAt K H u m) : MdAt K H' u m := by
  obtain ⟨a, b, us, e, h1, h2, h3⟩ := h
  exact ⟨a, b, us, e, p.sq h1, p.sq h2, h3.imp fun _ _ q => q.pt p⟩
theorem HdV.pt {v : V} {t : Option Th} (p : Pt H H') (h : HdV K H v t) : HdV K H' v t := by
  cases t <;> first | exact h | exact ThAt.pt p h
theorem MkAt.pt {u : V} {m : Mark} (p : Pt H H') (h : MkAt K H u m) : MkAt K H' u m := by
  obtain ⟨a, v, e, h1, h2⟩ := h
  exact ⟨a, v, e, p.sq h1, h2.pt p⟩
theorem mks_nil : Mks [] H := fun b h => nomatch h
/-- all that is not written stands -/
theorem NtAt.same (s : Same H H') (h : NtAt fm C F ns H A S l) : NtAt fm C F ns H' A S l := by
  have z := s.fz (M := []) mks_nil
  obtain ⟨kvs, ks, h1, h2, h3, h4, h5⟩ := h.hh
  obtain ⟨us, g1, g2⟩ := h.hm
  obtain ⟨ts, t1, t2⟩ := h.ht
  exact ⟨s _ _ h.hx, s _ _ h.hf, fun p hp => fm.fnK (h.fns p hp) mks_nil z, ⟨kvs, ks, s _ _ h1, h2, h3, h4, fun x => (h5 x).pt s.pt⟩, ⟨us, s _ _ g1, g2.imp fun _ _ q => q.pt s.pt⟩, s _ _ h.hw, s _ _ h.ho, s _ _ h.hp, ⟨ts, s _ _ t1, t2.imp fun _ _ q => q.pt s.pt⟩, h.nd, h.mo.same s, fm.atK h.at_ mks_nil z (fun _ _ m => nomatch m), h.wf⟩
theorem NtAt.mks (h : NtAt fm C F ns H A S l) : Mks A.own H := fun b hb => by
  obtain ⟨kvs, ks, h1, _⟩ := h.hh
  obtain ⟨us, g1, _⟩ := h.hm
  obtain ⟨ts, t1, _⟩ := h.ht
  simp only [Ad.own, List.mem_cons, List.not_mem_nil, or_false] at hb
  rcases hb with rfl | rfl | rfl | rfl | rfl | rfl
  · exact .inr ⟨_, h1⟩
  · exact .inl ⟨_, g1⟩
  · exact .inr ⟨_, h.hw⟩
  · exact .inl ⟨_, h.ho⟩
  · exact .inl ⟨_, h.hp⟩
  · exact .inl ⟨_, t1⟩
theorem NtAt.mksO (h : NtAt fm C F ns H A S l) : Mks (A.own ++ fm.out) H := h.mks.app h.mo
theorem WfS.hd {x : Str} {t : Th} (wf : WfS fm F ns S) (h : S.heads x = some t) : (∀ n, t = .note n → n < S.made.length) ∧ ∀ v, t = .worth v → fm.Ok v :=
  ⟨fun n e => wf.hlow x n (by rw [h, e]), fun v e => wf.okh x v (by rw [h, e])⟩
/-- a thing that may stand there -/
def OkT (fm : Fam P w K mg base) (S : NS) (t : Th) : Prop := (∀ n, t = .note n → n < S.made.length) ∧ ∀ v, t = .worth v → fm.Ok v
theorem WfS.now {t : Th} (wf : WfS fm F ns S) (h : OkT fm S t) : OkT fm S (nowS S t) := by
  cases t with
  | worth v => exact h
  | note n =>
    cases e : S.worths.lookup n with
    | none =>
      rw [nowS_none e]
      exact h
    | some v =>
      rw [nowS_some e]
      exact ⟨fun m z => (by cases z), fun u z => by
        cases z
        exact wf.okw (n, v) (look_mem e)⟩
theorem WfS.held {x : Str} (wf : WfS fm F ns S) : OkT fm S (heldS S x) := by
  refine wf.now ?_
  cases e : S.heads x with
  | none => exact ⟨fun n z => (by cases z), fun v z => by cases z; exact fm.ok0⟩
  | some t => exact wf.hd e
end
/-- what the class of a run's notes is told of -/
structure NtC (K : PySem.W.Frag) (C : Addr) : Prop where
  c : Cls K C
  n_functions : NoAttr K C "functions"
  n_heads : NoAttr K C "heads"
  n_made : NoAttr K C "made"
  n_worths : NoAttr K C "worths"
  n_order : NoAttr K C "order"
  n_printed : NoAttr K C "printed"
  n_trail : NoAttr K C "trail"
/-- a module's name that is a tuple -/
def TupC (K : PySem.W.Frag) (mg : Str → Option Value) (x : Str) (vs : List V) : Prop := ∃ a, mg x = some (.ref a) ∧ ∀ H, SqT K H a vs
end PM
namespace K24
open PySem PySem.Spec PyProof.Rows L2 ZX PM ZR
abbrev sHNow : Stmt := inClass (top 50) 8
abbrev sHHeld : Stmt := inClass (top 50) 2
section
variable {P : Program} {w : World} {K : PySem.W.Frag} {mg : Str → Option Value} {base : Heap} {C : Addr} {F : List (Str × Addr)} {ns : List Str}
def spNow (fm : Fam P w K mg base) (C : Addr) (F : List (Str × Addr)) (ns : List Str) : Sp := fun vs H Q _ => ∃ (A : Ad) (S : NS) (l : fm.L) (v : V) (t : Th), vs = [.ref A.x, v] ∧ NtAt fm C F ns H A S l ∧ ThAt K H v t ∧ ∀ u H', Same H H' → ThAt K H' u (nowS S t) → Q u H'
theorem scHNow : FnScope ["self", "thing", "kind", "what"] ["self", "thing"] (defScope sHNow) := ⟨rfl, rfl, rfl, by decide +kernel, rfl, by decide +kernel, by decide +kernel⟩
theorem ok_now {fm : Fam P w K mg base} {f : Addr} {fd : FuncData} (FD : FunD K "_now" "Holding._now" (defArgs sHNow) (defBody sHNow) (defScope sHNow) [] [] f fd) (c : NtC K C) : FnOk P w K mg base CX0 1 f fd ["self", "thing"] (spNow fm C F ns) := by
  refine FD.ok scHNow (fun vs H Q E h => ?_) (fun cdv A0 outer s H vs Q E hr h => ?_)
  · obtain ⟨A, S, l, v, t, rfl, _⟩ := h
    rfl
  · obtain ⟨A, S, l, v, t, rfl, hN, ⟨ta, rfl, hT⟩, k⟩ := h
    have hu := hu_of hr
    refine ⟨_, PSs.nox (pss_cons (ps_asg (pv 1) (pg_tup rfl (pgs_cons (pg_name (i := 2) scHNow.nd rfl (Or.inl rfl)) (pgs_cons (pg_name (i := 3) scHNow.nd rfl (Or.inl rfl)) pgs_nil))))
    (pss_cons (ps_if (PW.pt (pw_and (pt_cmpR op_eq (pv 2) pe_str (nomark _)) (pw_and1 (pt_cmp (pc_din hu (pv 3) (pe_fld (pv 0) rfl)))))) (pss_one (ps_ret (pe_tup (pa_cons pe_str (pa_cons (pe_dget hu (pe_fld (pv 0) rfl) (pv 3) (fun _ _ => rfl)) pa_nil))))) pss_nil)
    (pss_one (ps_ret (pv 1))))), ?_⟩
    cases t with
    | worth v =>
      refine ⟨_, rfl, ta, _, rfl, hT, rfl, _, _, rfl, _, _, rfl, rfl, ?_⟩
      refine ⟨_, rfl, rfl, _, rfl, ifBF (by decide +kernel) ?_⟩
      exact ⟨_, rfl, k _ H (fun _ _ h => h) ⟨ta, rfl, hT⟩⟩
    | note n =>
      refine ⟨_, rfl, ta, _, rfl, hT, rfl, _, _, rfl, _, _, rfl, rfl, ?_⟩
      refine ⟨_, rfl, rfl, _, rfl, ifB (by decide +kernel) ?_⟩
      have hg := DGet.k (k := .inl (n : Int)) hN.hw
      rw [valV_w] at hg
      refine ⟨_, rfl, _, rfl, A.x, C, A.dx, _, _, rfl, hN.hx, c.c, c.n_worths, rfl, A.wa, _, rfl, hg, _, rfl, ?_⟩
      cases e : S.worths.lookup n with
      | none =>
        rw [nowS_none e] at k
        exact ifBF rfl ⟨_, rfl, k _ H (fun _ _ h => h) ⟨ta, rfl, hT⟩⟩
      | some v =>
        rw [nowS_some e] at k
        rw [e] at hg
        exact ifB rfl ⟨_, rfl, A.x, C, A.dx, _, _, rfl, hN.hx, c.c, c.n_worths, rfl, _, rfl, A.wa, _, rfl, hg, by show 2 ≤ sizeLine; decide, fun q nq => k _ _ (same_new nq) ⟨q, rfl, .inl (.inl upd_same)⟩⟩
def spHeld (fm : Fam P w K mg base) (C : Addr) (F : List (Str × Addr)) (ns : List Str) : Sp := fun vs H Q _ => ∃ (A : Ad) (S : NS) (l : fm.L) (x : Str), vs = [.ref A.x, .str x] ∧ NtAt fm C F ns H A S l ∧ ∀ u H', Same H H' → ThAt K H' u (heldS S x) → Q u H'
theorem scHHeld : FnScope ["self", "name"] ["self", "name"] (defScope sHHeld) := ⟨rfl, rfl, rfl, by decide +kernel, rfl, by decide +kernel, by decide +kernel⟩
theorem ok_held {fm : Fam P w K mg base} {f : Addr} {fd : FuncData} (FD : FunD K "held" "Holding.held" (defArgs sHHeld) (defBody sHHeld) (defScope sHHeld) [] [] f fd) (c : NtC K C) (hNo : TupC K mg "NOTHING" [.str "worth", .int 0]) (M_now : MCal P w K mg base C "_now" 1 ["self", "thing"] (spNow fm C F ns)) : FnOk P w K mg base CX0 2 f fd ["self", "name"] (spHeld fm C F ns) := by
  refine FD.ok scHHeld (fun vs H Q E h => ?_) (fun cdv A0 outer s H vs Q E hr h => ?_)
  · obtain ⟨A, S, l, x, rfl, _⟩ := h
    rfl
  · obtain ⟨A, S, l, x, rfl, hN, k⟩ := h
    obtain ⟨no, mNo, hNo⟩ := hNo
    have hu := hu_of hr
    refine ⟨_, PSs.nox (pss_one (ps_ret (pmc M_now hr (pv 0) (pa_cons (pe_dget2 hu (pe_fld (pv 0) rfl) (pv 1) (pe_glob (v := .ref no) (by rfl) mNo rfl) ⟨rfl, rfl, rfl, rfl⟩) pa_nil)))), ?_⟩
    obtain ⟨kvs, ks, h1, h2, h3, h4, h5⟩ := hN.hh
    refine ⟨_, rfl, A.x, A.dx, _, rfl, hN.hx, rfl, ?_⟩
    refine ⟨_, rfl, A.x, C, A.dx, _, _, rfl, hN.hx, c.c, c.n_heads, rfl, A.ha, rfl, .inl ⟨_, .inl h1⟩, _, rfl, _, DGet.k (k := .inr x) h1, ?_⟩
    have hx := h5 x
    refine ⟨A, S, l, _, (S.heads x).getD (.worth (.int 0)), rfl, hN, ?_, k⟩
    cases e1 : valV kvs (.inr x) with
    | none =>
      rw [e1] at hx
      cases e2 : S.heads x with
      | none => exact ⟨no, rfl, hNo H⟩
      | some t => rw [e2] at hx; exact hx.elim
    | some v =>
      rw [e1] at hx
      cases e2 : S.heads x with
      | none => rw [e2] at hx; exact hx.elim
      | some t => rw [e2] at hx; exact hx
end
end K24
set_option Elab.async false
set_option linter.all false
set_option maxRecDepth 100000
set_option maxHeartbeats 4000000
/-! Holding._open, _worth. -/
namespace PM
open PySem PySem.Spec PyProof.Rows L2 ZX ZR
/-- either of two walks -/
def iOr (a b : TI) : TI := fun σ H R => a σ H R ∨ b σ H R
theorem pi_or {X : Cx} {tg e : Expr} {a b : TI} (h1 : PI X tg e a) (h2 : PI X tg e b) : PI X tg e (iOr a b) := ⟨fun pins s σ H R I h => h.elim (h1.run pins s σ H R I) (h2.run pins s σ H R I)⟩
def isOpen (S : NS) (fr : List (Nat × V)) : Th → Bool
  | .note n => (S.worths.lookup n).isNone && (fr.lookup n).isNone
  | .worth _ => false
def numT : Th → Nat
  | .note n => n
  | .worth _ => 0
/-- the numbers of those that wait -/
def openS (S : NS) (fr : List (Nat × V)) (ts : List Th) : List Nat := (ts.filter (isOpen S fr)).map numT
def natV (ns : List Nat) : List V := ns.map fun (n : Nat) => V.int n
def worthS (S : NS) (fr : List (Nat × V)) : Th → V
  | .worth v => v
  | .note n => match fr.lookup n with
    | some v => v
    | none => match S.worths.lookup n with
      | some v => v
      | none => .int n
theorem All2.getR {α β : Type} {R : α → β → Prop} {b : β} : ∀ {as : List α} {bs : List β} {i : Nat}, All2 R as bs → bs[i]? = some b → ∃ a, as[i]? = some a ∧ R a b
  | _, _, i, .nil, h => by simp at h
  | _, _, 0, .cons r _, h => by cases h; exact ⟨_, rfl, r⟩
  | _, _, i + 1, .cons _ t, h => All2.getR (i := i) t (by simpa using h)
theorem All2.getL {α β : Type} {R : α → β → Prop} {a : α} : ∀ {as : List α} {bs : List β} {i : Nat}, All2 R as bs → as[i]? = some a → ∃ b, bs[i]? = some b ∧ R a b
  | _, _, i, .nil, h => by simp at h
  | _, _, 0, .cons r _, h => by cases h; exact ⟨_, rfl, r⟩
  | _, _, i + 1, .cons _ t, h => All2.getL (i := i) t (by simpa using h)
end PM
namespace K24
open PySem PySem.Spec PyProof.Rows L2 ZX PM ZR
abbrev sHOpen : Stmt := inClass (top 50) 9
abbrev sHWorth : Stmt := inClass (top 50) 10
section
variable {P : Program} {w : World} {K : PySem.W.Frag} {mg : Str → Option Value} {base : Heap} {C : Addr} {F : List (Str × Addr)} {ns : List Str}
def spOpen (fm : Fam P w K mg base) (C : Addr) (F : List (Str × Addr)) (ns : List Str) : Sp := fun vs H Q _ => ∃ (A : Ad) (S : NS) (l : fm.L) (ta fa : Addr) (us : List V) (ts : List Th) (fr : List (Nat × V)), vs = [.ref A.x, .ref ta, .ref fa] ∧ NtAt fm C F ns H A S l ∧
  (SqL K H ta us ∨ SqT K H ta us) ∧ All2 (ThAt K H) us ts ∧ us.length ≤ 100 ∧ H fa = some (.dK (wKV fr)) ∧ ∀ q H', Same H H' → H q = none → H' q = some (.lst (natV (openS S fr ts))) → Q (.ref q) H'
theorem scHOpen : FnScope ["self", "things", "fresh", "kind", "what"] ["self", "things", "fresh"] (defScope sHOpen) := ⟨rfl, rfl, rfl, by decide +kernel, rfl, by decide +kernel, by decide +kernel⟩
theorem ok_open {fm : Fam P w K mg base} {f : Addr} {fd : FuncData} (FD : FunD K "_open" "Holding._open" (defArgs sHOpen) (defBody sHOpen) (defScope sHOpen) [] [] f fd) (c : NtC K C) : FnOk P w K mg base CX0 1 f fd ["self", "things", "fresh"] (spOpen fm C F ns) := by
  refine FD.ok scHOpen (fun vs H Q E h => ?_) (fun cdv A0 outer s H vs Q E hr h => ?_)
  · obtain ⟨A, S, l, ta, fa, us, ts, fr, rfl, _⟩ := h
    rfl
  · obtain ⟨A, S, l, ta, fa, us, ts, fr, rfl, hN, hS, hT, hlen, hF, k⟩ := h
    have hu := hu_of hr
    refine ⟨_, PSs.nox (pss_one (ps_ret (pe_lcS (own := [("kind", 3), ("what", 4)]) (g := gTup K 2 (gCons (gName 3) (gCons (gName 4) gNil))) (tt := tAnd (tTest (tOp rEq (tVar 3) (tC (.str "note")))) (tAnd (tB (tDNotIn (tVar 4) (tFld K (tVar 0) "worths"))) (tB (tDNotIn (tVar 4) (tVar 2))))) (te := tVar 4) (by rfl) scHOpen.nd (pi_or (pi_list (pv 1)) (pi_tup (pv 1))) (blkOk_by (N := ["self", "things", "fresh", "kind", "what"]) (sc := defScope sHOpen) (by decide +kernel))
      (fun _ _ _ _ _ => (pg_tup rfl (pgs_cons (pg_name (i := 3) scHOpen.nd rfl (Or.inl rfl)) (pgs_cons (pg_name (i := 4) scHOpen.nd rfl (Or.inl rfl)) pgs_nil))))
      (fun _ _ _ _ _ => (pts_one (PW.pt (pw_and (pt_cmpR op_eq (pv 3) pe_str (nomark _)) (pw_and (pt_cmp (pc_dnotin hu (pv 4) (pe_fld (pv 0) rfl))) (pw_and1 (pt_cmp (pc_dnotin hu (pv 4) (pv 2)))))))))
      (fun _ _ _ _ _ => (pv 4))))), ?_⟩
    have go : ∀ {J : It} {St : Hp → Prop}, IterOf J us St → (∀ H', Same H H' → Pt H H' → St H') → tLcS (fun _ _ R => R J H) (gTup K 2 (gCons (gName 3) (gCons (gName 4) gNil))) (tAnd (tTest (tOp rEq (tVar 3) (tC (.str "note")))) (tAnd (tB (tDNotIn (tVar 4) (tFld K (tVar 0) "worths"))) (tB (tDNotIn (tVar 4) (tVar 2))))) (tVar 4) [3, 4] (L2.start ["self", "things", "fresh", "kind", "what"] [.ref A.x, .ref ta, .ref fa]) H (fun v H' => Q v H') := by
      intro J St O st
      refine lc_overF (as := ts) (Rel := fun _ t y => y = .int (numT t : Nat)) (isOpen S fr) O hT.len.symm (fun _ _ _ _ _ h => h) (Nat.lt_of_le_of_lt hlen (by decide)) st ?_ ?_
      · intro i x t hx ht H' sm pt R N kR kN
        obtain ⟨b, hb, hbt⟩ := hT.getL hx
        rw [ht] at hb
        cases hb
        obtain ⟨xa, rfl, hxS⟩ := hbt.pt pt
        have hN' := hN.same sm
        cases t with
        | worth v =>
          refine ⟨xa, _, rfl, hxS, rfl, _, _, rfl, _, _, rfl, rfl, rfl, ?_⟩
          exact ⟨_, rfl, rfl, _, rfl, ifBF (by decide +kernel) (ifBF rfl (kN rfl _ fun _ _ h => h))⟩
        | note n =>
          refine ⟨xa, _, rfl, hxS, rfl, _, _, rfl, _, _, rfl, rfl, rfl, ?_⟩
          have hg := DGet.k (k := .inl (n : Int)) hN'.hw
          have hg2 := DGet.k (k := .inl (n : Int)) (sm _ _ hF)
          rw [valV_w] at hg hg2
          refine ⟨_, rfl, rfl, _, rfl, ifB (by decide +kernel) ?_⟩
          refine ⟨_, rfl, _, rfl, A.x, C, A.dx, _, _, rfl, hN'.hx, c.c, c.n_worths, rfl, A.wa, _, rfl, hg, _, rfl, ?_⟩
          cases e1 : S.worths.lookup n with
          | some v => exact ifBF rfl (ifBF rfl (kN (by simp [isOpen, e1]) _ fun _ _ h => h))
          | none =>
            refine ifB rfl ⟨_, rfl, _, rfl, fa, _, rfl, hg2, _, rfl, ?_⟩
            cases e2 : fr.lookup n with
            | some v => exact ifBF rfl (kN (by simp [isOpen, e2]) _ fun _ _ h => h)
            | none => exact ifB rfl ⟨_, rfl, kR (by simp [isOpen, e1, e2]) _ _ (fun _ _ h => h) rfl⟩
      · intro D ys H' sm pt nD hD all
        refine k D H' sm nD ?_
        have e := All2.map all
        rw [hD, e]
        unfold openS natV
        rw [List.map_map]
        rfl
    refine lc_into ?_
    rcases hS with hS | hS
    · exact .inl ⟨_, rfl, ta, rfl, ⟨_, hS⟩, go it_list fun H' s _ => s.seq hS⟩
    · exact .inr ⟨_, rfl, ta, rfl, ⟨_, hS⟩, go it_tup fun H' _ p => p.sq hS⟩
def spWorth (fm : Fam P w K mg base) (C : Addr) (F : List (Str × Addr)) (ns : List Str) : Sp := fun vs H Q _ => ∃ (A : Ad) (S : NS) (l : fm.L) (v : V) (t : Th) (fa : Addr) (fr : List (Nat × V)), vs = [.ref A.x, v, .ref fa] ∧ NtAt fm C F ns H A S l ∧ ThAt K H v t ∧ H fa = some (.dK (wKV fr)) ∧ ∀ H', Same H H' → Q (worthS S fr t) H'
theorem scHWorth : FnScope ["self", "thing", "fresh", "kind", "what"] ["self", "thing", "fresh"] (defScope sHWorth) := ⟨rfl, rfl, rfl, by decide +kernel, rfl, by decide +kernel, by decide +kernel⟩
theorem ok_worth {fm : Fam P w K mg base} {f : Addr} {fd : FuncData} (FD : FunD K "_worth" "Holding._worth" (defArgs sHWorth) (defBody sHWorth) (defScope sHWorth) [] [] f fd) (c : NtC K C) (M_now : MCal P w K mg base C "_now" 1 ["self", "thing"] (spNow fm C F ns)) : FnOk P w K mg base CX0 2 f fd ["self", "thing", "fresh"] (spWorth fm C F ns) := by
  refine FD.ok scHWorth (fun vs H Q E h => ?_) (fun cdv A0 outer s H vs Q E hr h => ?_)
  · obtain ⟨A, S, l, v, t, fa, fr, rfl, _⟩ := h
    rfl
  · obtain ⟨A, S, l, v, t, fa, fr, rfl, hN, ⟨ta, rfl, hT⟩, hF, k⟩ := h
    have hu := hu_of hr
    refine ⟨_, PSs.nox (pss_cons (ps_asg (pv 1) (pg_tup rfl (pgs_cons (pg_name (i := 3) scHWorth.nd rfl (Or.inl rfl)) (pgs_cons (pg_name (i := 4) scHWorth.nd rfl (Or.inl rfl)) pgs_nil))))
    (pss_cons (ps_if (PW.pt (pw_and (pt_cmpR op_eq (pv 3) pe_str (nomark _)) (pw_and1 (pt_cmp (pc_din hu (pv 4) (pv 2)))))) (pss_one (ps_ret (pe_dget hu (pv 2) (pv 4) (fun _ _ => rfl)))) pss_nil)
    (pss_one (ps_ret (pe_ix ix_tup (pmc M_now hr (pv 0) (pa_cons (pv 1) pa_nil)) pe_int (fun _ _ => rfl)))))), ?_⟩
    have hnow : ∀ {σ : L2.St}, σ[0]? = some (some (.ref A.x)) → σ[1]? = some (some (.ref ta)) → ∀ {D : VK}, (∀ u H', Same H H' → ThAt K H' u (nowS S t) → D u H') → tMeth C "_now" (spNow fm C F ns) [] E0 (tVar 0) (tCons (tVar 1) tNil) σ H D := fun {σ} h0 h1 {D} kk =>
      ⟨_, h0, A.x, A.dx, _, rfl, hN.hx, rfl, _, h1, A, S, l, _, t, rfl, hN, ⟨ta, rfl, hT⟩, kk⟩
    cases t with
    | worth v =>
      refine ⟨_, rfl, ta, _, rfl, hT, rfl, _, _, rfl, _, _, rfl, rfl, ?_⟩
      refine ⟨_, rfl, rfl, _, rfl, ifBF (by decide +kernel) ?_⟩
      refine hnow rfl rfl fun u H' sm hu' => ?_
      obtain ⟨ua, rfl, hU⟩ := hu'
      exact ⟨ua, _, 1, _, rfl, rfl, hU, rfl, k H' sm⟩
    | note n =>
      refine ⟨_, rfl, ta, _, rfl, hT, rfl, _, _, rfl, _, _, rfl, rfl, ?_⟩
      have hg := DGet.k (k := .inl (n : Int)) hF
      rw [valV_w] at hg
      refine ⟨_, rfl, rfl, _, rfl, ifB (by decide +kernel) ⟨_, rfl, _, rfl, fa, _, rfl, hg, _, rfl, ?_⟩⟩
      have ew : worthS S fr (.note n) = match fr.lookup n with
          | some v => v
          | none => match S.worths.lookup n with
            | some v => v
            | none => .int n := rfl
      rw [ew] at k
      cases e1 : fr.lookup n with
      | some v =>
        rw [e1] at hg k
        exact ifB rfl ⟨_, rfl, _, rfl, fa, _, rfl, hg, k H fun _ _ h => h⟩
      | none =>
        rw [e1] at k
        refine ifBF rfl ?_
        refine hnow rfl rfl fun u H' sm hu' => ?_
        obtain ⟨ua, rfl, hU⟩ := hu'
        cases e2 : S.worths.lookup n with
        | some v =>
          rw [e2] at k
          rw [nowS_some e2] at hU
          exact ⟨ua, _, 1, _, rfl, rfl, hU, rfl, k H' sm⟩
        | none =>
          rw [e2] at k
          rw [nowS_none e2] at hU
          exact ⟨ua, _, 1, _, rfl, rfl, hU, rfl, k H' sm⟩
end
end K24
set_option Elab.async false
set_option linter.all false
set_option maxRecDepth 100000
set_option maxHeartbeats 4000000
/-! Holding._worked_out. -/
namespace PM
open PySem PySem.Spec PyProof.Rows L2 ZX ZR
section
variable {P : Program} {w : World} {K : PySem.W.Frag} {mg : Str → Option Value} {base : Heap}
/-- what is worked out, note by note: the pile of numbers (its top first), what is worth freshly, the account -/
inductive Wo (fm : Fam P w K mg base) (S : NS) : List Nat → List (Nat × V) → fm.L → List (Nat × V) → fm.L → Prop
  | done {fr : List (Nat × V)} {l : fm.L} : Wo fm S [] fr l fr l
  | push {k b : Nat} {ah bs : List Nat} {fr fr' : List (Nat × V)} {l l' : fm.L} {m : Str × List Th} (hk : S.made[k]? = some m) (ho : openS S fr m.2 = b :: bs) (h : Wo fm S (b :: k :: ah) fr l fr' l') : Wo fm S (k :: ah) fr l fr' l'
  | call {k : Nat} {ah : List Nat} {fr fr' : List (Nat × V)} {l l1 l' : fm.L} {m : Str × List Th} {v : V} (hk : S.made[k]? = some m) (ho : openS S fr m.2 = []) (hc : fm.call m.1 (m.2.map (worthS S fr)) l v l1) (h : Wo fm S ah (fr ++ [(k, v)]) l1 fr' l') : Wo fm S (k :: ah) fr l fr' l'
/-- what is worth freshly -/
structure FrOk (fm : Fam P w K mg base) (S : NS) (fr : List (Nat × V)) : Prop where
  nd : (fr.map (·.1)).Nodup
  lt : ∀ p ∈ fr, p.1 < S.made.length
  un : ∀ p ∈ fr, S.worths.lookup p.1 = none
  ok : ∀ p ∈ fr, fm.Ok p.2
/-- the functions of the family, as a local name may hold them -/
def FamS (fm : Fam P w K mg base) (f : Addr) (R : Hp → Prop) (sp : Sp) : Prop := ∃ o, R = fm.Fn o f ∧ sp = (fun vs H Q _ => ∃ t ws l, vs = [.ref t] ∧ SqT K H t ws ∧ ws.length ≤ 3 ∧ (∀ v ∈ ws, fm.Ok v) ∧ Mks fm.out H ∧ fm.At l H ∧ ∀ v l' H', fm.call o ws l v l' → fm.Ok v → Fz fm.out H H' → fm.At l' H' → Q v H')
theorem FamS.callee {fm : Fam P w K mg base} {f : Addr} {R : Hp → Prop} {sp : Sp} (h : FamS fm f R sp) : Callee P w K mg base fm.lev f R sp := by
  obtain ⟨o, rfl, rfl⟩ := h
  exact fm.callee o f
variable {fm : Fam P w K mg base} {C : Addr} {F : List (Str × Addr)} {ns : List Str} {H H' : Hp} {A : Ad} {S : NS} {l l' : fm.L}
theorem NtAt.own_out (h : NtAt fm C F ns H A S l) : ∀ b ∈ A.own, b ∉ fm.out := fun b hb hm => (List.nodup_append.mp (List.nodup_cons.mp h.nd).2).2.2 b hb b hm rfl
theorem NtAt.fa_out (h : NtAt fm C F ns H A S l) : A.fa ∉ fm.out := fun hm => (List.nodup_cons.mp h.nd).1 (List.mem_append_right _ hm)
theorem NtAt.x_out (h : NtAt fm C F ns H A S l) : A.x ∉ fm.out := h.mo.no h.hx fun z => by
  rcases z with ⟨_, z⟩ | ⟨_, z⟩ <;> cases z
/-- behind a call of a function -/
theorem NtAt.call (h : NtAt fm C F ns H A S l) (z : Fz fm.out H H') (a : fm.At l' H') : NtAt fm C F ns H' A S l' := by
  obtain ⟨kvs, ks, h1, h2, h3, h4, h5⟩ := h.hh
  obtain ⟨us, g1, g2⟩ := h.hm
  obtain ⟨ts, t1, t2⟩ := h.ht
  have pt := z.pt h.mo
  have oo := h.own_out
  exact ⟨z.keep _ _ h.x_out h.hx, z.keep _ _ h.fa_out h.hf, fun p hp => fm.fnK (h.fns p hp) h.mo z, ⟨kvs, ks, z.keep _ _ (oo _ (by simp [Ad.own])) h1, h2, h3, h4, fun x => (h5 x).pt pt⟩, ⟨us, z.keep _ _ (oo _ (by simp [Ad.own])) g1, g2.imp fun _ _ q => q.pt pt⟩,
    z.keep _ _ (oo _ (by simp [Ad.own])) h.hw, z.keep _ _ (oo _ (by simp [Ad.own])) h.ho, z.keep _ _ (oo _ (by simp [Ad.own])) h.hp, ⟨ts, z.keep _ _ (oo _ (by simp [Ad.own])) t1, t2.imp fun _ _ q => q.pt pt⟩, h.nd, z.mks, a, h.wf⟩
/-- a new thing that is not the notes' is changed -/
theorem NtAt.put {b : Addr} {o : HO} (h : NtAt fm C F ns H A S l) (m : IsM (H b)) (i : IsM (some o)) (nf : b ≠ A.fa) (no : b ∉ A.own) (nu : b ∉ fm.out) : NtAt fm C F ns (upd H b o) A S l := by
  have mb : Mks [b] H := fun c hc => by
    rw [List.mem_singleton.mp hc]
    exact m
  have z : Fz [b] H (upd H b o) := Fz.put mb List.mem_cons_self i
  obtain ⟨kvs, ks, h1, h2, h3, h4, h5⟩ := h.hh
  obtain ⟨us, g1, g2⟩ := h.hm
  obtain ⟨ts, t1, t2⟩ := h.ht
  have pt := z.pt mb
  have kp : ∀ {c : Addr} {u : HO}, c ≠ b → H c = some u → upd H b o c = some u := fun n e => by
    rw [upd_ne n]
    exact e
  have ow : ∀ {c : Addr}, c ∈ A.own → c ≠ b := fun hc e => no (by rw [← e]; exact hc)
  have nx : A.x ≠ b := fun e => by
    rw [← e, h.hx] at m
    rcases m with ⟨_, q⟩ | ⟨_, q⟩ <;> cases q
  exact ⟨kp nx h.hx, kp (Ne.symm nf) h.hf, fun p hp => fm.fnK (h.fns p hp) mb z, ⟨kvs, ks, kp (ow (by simp [Ad.own])) h1, h2, h3, h4, fun x => (h5 x).pt pt⟩, ⟨us, kp (ow (by simp [Ad.own])) g1, g2.imp fun _ _ q => q.pt pt⟩,
    kp (ow (by simp [Ad.own])) h.hw, kp (ow (by simp [Ad.own])) h.ho, kp (ow (by simp [Ad.own])) h.hp, ⟨ts, kp (ow (by simp [Ad.own])) t1, t2.imp fun _ _ q => q.pt pt⟩, h.nd, h.mo.put i, fm.atK h.at_ mb z (fun c hc m => nu (by rw [← List.mem_singleton.mp m]; exact hc)), h.wf⟩
/-- where nothing stood, nothing of the notes stands -/
theorem NtAt.new_ne (h : NtAt fm C F ns H A S l) {b : Addr} (n : H b = none) : b ≠ A.fa ∧ b ∉ A.own ∧ b ∉ fm.out := by
  refine ⟨fun e => ?_, fun hb => ?_, fun hb => ?_⟩
  · rw [e, h.hf] at n
    cases n
  · rcases h.mks b hb with ⟨_, e⟩ | ⟨_, e⟩ <;> rw [n] at e <;> cases e
  · rcases h.mo b hb with ⟨_, e⟩ | ⟨_, e⟩ <;> rw [n] at e <;> cases e
theorem valF {o : Str} : ∀ {F : List (Str × Addr)}, o ∈ F.map (·.1) → ∃ f, valV (F.map fun p => ((.inr p.1 : Key), V.ref p.2)) (.inr o) = some (.ref f) ∧ (o, f) ∈ F
  | (x, f) :: F, h => by
    by_cases e : x = o
    · subst e
      exact ⟨f, by rw [List.map_cons, valV_pos rfl], List.mem_cons_self⟩
    · rcases List.mem_cons.mp h with rfl | h
      · exact absurd rfl e
      · obtain ⟨g, h1, h2⟩ := valF h
        exact ⟨g, by rw [List.map_cons, valV_neg (fun z => e (by injection z)), h1], List.mem_cons_of_mem _ h2⟩
end
theorem look_none {n : Nat} : ∀ {fr : List (Nat × V)}, fr.lookup n = none ↔ n ∉ fr.map (·.1)
  | [] => by simp
  | (k, v) :: fr => by
    rw [List.lookup_cons, List.map_cons, List.mem_cons, not_or, ← look_none (fr := fr)]
    by_cases e : n = k
    · subst e
      simp
    · have : (n == k) = false := beq_eq_false_iff_ne.mpr e
      rw [this]
      simp [e]
theorem wKV_put {fr : List (Nat × V)} {k : Nat} {v : V} (h : fr.lookup k = none) : putK (wKV fr) (.inl (k : Int)) v = wKV (fr ++ [(k, v)]) := by
  rw [putK_new v (by rw [valV_w]; exact h)]
  unfold wKV
  rw [List.map_append]
  rfl
theorem mem_open {S : NS} {fr : List (Nat × V)} {ts : List Th} {n : Nat} : n ∈ openS S fr ts ↔ Th.note n ∈ ts ∧ S.worths.lookup n = none ∧ fr.lookup n = none := by
  unfold openS
  rw [List.mem_map]
  constructor
  · rintro ⟨t, ht, e⟩
    obtain ⟨h1, h2⟩ := List.mem_filter.mp ht
    cases t with
    | worth v => cases h2
    | note m =>
      obtain rfl : m = n := e
      simp only [isOpen, Bool.and_eq_true, Option.isNone_iff_eq_none] at h2
      exact ⟨h1, h2⟩
  · rintro ⟨h1, h2, h3⟩
    exact ⟨.note n, List.mem_filter.mpr ⟨h1, by simp [isOpen, h2, h3]⟩, rfl⟩
end PM
namespace PM
open PySem PySem.Spec PyProof.Rows L2 ZX ZR
section
variable {P : Program} {w : World} {K : PySem.W.Frag} {mg : Str → Option Value} {base : Heap} {fm : Fam P w K mg base} {F : List (Str × Addr)} {ns : List Str} {S : NS} {fr : List (Nat × V)}
/-- the pile: its top the least, none worked out -/
structure PiOk (S : NS) (fr : List (Nat × V)) (ah : List Nat) : Prop where
  asc : ah.Pairwise (· < ·)
  lt : ∀ k ∈ ah, k < S.made.length
  un : ∀ k ∈ ah, S.worths.lookup k = none
  nf : ∀ k ∈ ah, fr.lookup k = none
def topN : List Nat → Nat
  | [] => 0
  | k :: _ => k + 1
def msW (S : NS) (fr : List (Nat × V)) (ah : List Nat) : Nat := (S.made.length - fr.length) * (S.made.length + 1) + topN ah
theorem msW_call {k : Nat} {ah : List Nat} {v : V} (hl : fr.length < S.made.length) (ha : ∀ k ∈ ah, k < S.made.length) : msW S (fr ++ [(k, v)]) ah < msW S fr (k :: ah) := by
  unfold msW
  rw [List.length_append, List.length_singleton]
  have h1 : topN ah ≤ S.made.length := by
    cases ah with
    | nil => exact Nat.zero_le _
    | cons b bs => exact ha b List.mem_cons_self
  have h2 : S.made.length - fr.length = (S.made.length - (fr.length + 1)) + 1 := by omega
  rw [h2, Nat.succ_mul]
  show _ + topN ah < _ + (k + 1)
  omega
theorem nodup_lt : ∀ {n : Nat} {l : List Nat}, l.Nodup → (∀ k ∈ l, k < n) → l.length ≤ n := fun {n l} nd h => by
  have hs : l ⊆ List.range n := fun k hk => List.mem_range.mpr (h k hk)
  have := List.Nodup.length_le_of_subset nd hs
  rwa [List.length_range] at this
theorem FrOk.len_lt {k : Nat} (h : FrOk fm S fr) (hk : k < S.made.length) (nf : fr.lookup k = none) : fr.length < S.made.length := by
  have nd : (k :: fr.map (·.1)).Nodup := List.nodup_cons.mpr ⟨look_none.mp nf, h.nd⟩
  have := nodup_lt nd (n := S.made.length) (fun j hj => by
    rcases List.mem_cons.mp hj with rfl | hj
    · exact hk
    · obtain ⟨p, hp, rfl⟩ := List.mem_map.mp hj
      exact h.lt p hp)
  rw [List.length_cons, List.length_map] at this
  omega
theorem FrOk.more {k : Nat} {v : V} (h : FrOk fm S fr) (hk : k < S.made.length) (nf : fr.lookup k = none) (hu : S.worths.lookup k = none) (hv : fm.Ok v) : FrOk fm S (fr ++ [(k, v)]) := by
  refine ⟨?_, fun p hp => ?_, fun p hp => ?_, fun p hp => ?_⟩
  · rw [List.map_append]
    exact List.nodup_append.mpr ⟨h.nd, by simp, fun a ha b hb e => look_none.mp nf (by
      have hb : b = k := by simpa using hb
      rw [← hb, ← e]
      exact ha)⟩
  all_goals
    rcases List.mem_append.mp hp with hp | hp
    · first | exact h.lt p hp | exact h.un p hp | exact h.ok p hp
    · rw [List.mem_singleton.mp hp]
      assumption
theorem look_snoc {k j : Nat} {v : V} (h : fr.lookup j = none) (n : j ≠ k) : (fr ++ [(k, v)]).lookup j = none := by
  rw [look_none, List.map_append, List.mem_append, not_or]
  exact ⟨look_none.mp h, by simpa using n⟩
/-- what a note's parts are worth when none of them waits -/
theorem worth_ok {k : Nat} {m : Str × List Th} (wf : WfS fm F ns S) (hf : FrOk fm S fr) (hk : S.made[k]? = some m) (ho : openS S fr m.2 = []) : ∀ v ∈ m.2.map (worthS S fr), fm.Ok v := fun v hv => by
  obtain ⟨t, ht, rfl⟩ := List.mem_map.mp hv
  cases t with
  | worth u => exact wf.okm m (List.mem_of_getElem? hk) u ht
  | note n =>
    show fm.Ok (match fr.lookup n with
      | some v => v
      | none => match S.worths.lookup n with
        | some v => v
        | none => .int n)
    cases e1 : fr.lookup n with
    | some v => exact hf.ok _ (look_mem e1)
    | none =>
      cases e2 : S.worths.lookup n with
      | some v => exact wf.okw _ (look_mem e2)
      | none => exact fm.okI _
end
end PM
namespace K24
open PySem PySem.Spec PyProof.Rows L2 ZX PM ZR
abbrev sHWorkedOut : Stmt := inClass (top 50) 12
section
variable {P : Program} {w : World} {K : PySem.W.Frag} {mg : Str → Option Value} {base : Heap} {C : Addr} {F : List (Str × Addr)} {ns : List Str}
def spWorkedOut (fm : Fam P w K mg base) (C : Addr) (F : List (Str × Addr)) (ns : List Str) : Sp := fun vs H Q _ => ∃ (A : Ad) (S : NS) (l : fm.L) (v : V) (t : Th), vs = [.ref A.x, v] ∧ NtAt fm C F ns H A S l ∧ ThAt K H v t ∧ OkT fm S t ∧
  ∀ q fr l' H', Fz fm.out H H' → NtAt fm C F ns H' A S l' → H q = none → H' q = some (.dK (wKV fr)) → Wo fm S (openS S [] [t]) [] l fr l' → FrOk fm S fr → Q (.ref q) H'
abbrev NWO : List Str := ["self", "thing", "fresh", "ahead", "op", "parts", "beneath", "work", "part"]
theorem scHWorkedOut : FnScope NWO ["self", "thing"] (defScope sHWorkedOut) := ⟨rfl, rfl, rfl, by decide +kernel, rfl, by decide +kernel, by decide +kernel⟩
theorem ok_worked_out {fm : Fam P w K mg base} {f : Addr} {fd : FuncData} (FD : FunD K "_worked_out" "Holding._worked_out" (defArgs sHWorkedOut) (defBody sHWorkedOut) (defScope sHWorkedOut) [] [] f fd) (T : Bi mg) (c : NtC K C) (M_open : MCal P w K mg base C "_open" 1 ["self", "things", "fresh"] (spOpen fm C F ns)) (M_worth : MCal P w K mg base C "_worth" 2 ["self", "thing", "fresh"] (spWorth fm C F ns)) : FnOk P w K mg base CX0 (fm.lev + 3) f fd ["self", "thing"] (spWorkedOut fm C F ns) := by
  refine FD.ok scHWorkedOut (fun vs H Q E h => ?_) (fun cdv A0 outer s H vs Q E hr h => ?_)
  · obtain ⟨A, S, l, v, t, rfl, _⟩ := h
    rfl
  · obtain ⟨A, S, l, v, t, rfl, hN, hT, hOk, k⟩ := h
    have hu := hu_of hr
    have hr1 := hr.mono (show 1 ≤ fm.lev + 2 by omega)
    have hr2 := hr.mono (show 2 ≤ fm.lev + 2 by omega)
    have hrF := hr.mono (show fm.lev ≤ fm.lev + 2 by omega)
    refine ⟨_, PSs.nox (pss_cut (ps_set (i := 2) scHWorkedOut.nd rfl (Or.inr rfl) pe_dnewK)
    (pss_cut (ps_set (i := 3) scHWorkedOut.nd rfl (Or.inl rfl) (pmc M_open hr1 (pv 0) (pa_cons (pe_lst (pa_cons (pv 1) pa_nil)) (pa_cons (pv 2) pa_nil))))
    (pss_cons (ps_while PassesOwn.never (pt_truth (pv 3) (by intro _; rfl)) (pss_cons (ps_asg (pe_ix ix_list (pe_fld (pv 0) rfl) (pe_ix ix_list (pv 3) (pe_un un_neg pe_int) (fun _ _ => rfl)) (fun _ _ => rfl)) (pg_tup rfl (pgs_cons (pg_name (i := 4) scHWorkedOut.nd rfl (Or.inl rfl)) (pgs_cons (pg_name (i := 5) scHWorkedOut.nd rfl (Or.inl rfl)) pgs_nil))))
      (pss_cons (ps_set (i := 6) scHWorkedOut.nd rfl (Or.inl rfl) (pmc M_open hr1 (pv 0) (pa_cons (pv 5) (pa_cons (pv 2) pa_nil))))
      (pss_one (ps_if (pt_truth (pv 6) (by intro _; rfl)) (pss_one (ps_expr (pe_bm PySem.F.plainAttrs_list PySem.F.slot_list_append PySem.F.type_list_append mt_append (pv 3) (pa_cons (pe_ix ix_list (pv 6) pe_int (fun _ _ => rfl)) pa_nil))))
        (pss_cons (ps_set (i := 7) scHWorkedOut.nd rfl (Or.inl rfl) (pe_dget hu (pe_fld (pv 0) rfl) (pv 4) (fun _ _ => rfl)))
        (pss_cons (ps_dput hu (pv 2) (pe_ix ix_list (pv 3) (pe_un un_neg pe_int) (fun _ _ => rfl)) (pe_callV (S := FamS fm) (k := fm.lev) (i := 7) (x := "work") (fun _ _ _ h => h.callee) hrF rfl (Or.inl rfl) (pa_cons (pe_callTy call_tuple_of (by rfl) T.b_tuple (by decide +kernel) (pa_cons (pe_lcS (own := [("part", 8)]) (g := gName 8) (tt := tYes) (te := tMeth C "_worth" (spWorth fm C F ns) [] E0 (tVar 0) (tCons (tVar 8) (tCons (tVar 2) tNil))) (by rfl) scHWorkedOut.nd (pi_tup (pv 5)) (blkOk_by (N := NWO) (sc := defScope sHWorkedOut) (by decide +kernel)) (fun _ _ _ _ _ => (pg_name (i := 8) scHWorkedOut.nd rfl (Or.inl rfl))) (fun _ _ _ _ _ => pts_nil) (fun _ _ _ _ _ => (pmc M_worth hr2 (pv 0) (pa_cons (pv 8) (pa_cons (pv 2) pa_nil))))) pa_nil)) pa_nil)) rfl)
        (pss_one (ps_expr (pe_bm0 PySem.F.plainAttrs_list PySem.F.slot_list_pop PySem.F.type_list_pop mt_pop (pv 3)))))))))))
    (pss_one (ps_ret (pv 2)))))), ?_⟩
    refine ⟨fun σ1 H1 => ∃ fa, σ1 = [some (.ref A.x), some v, some (.ref fa), none, none, none, none, none, none] ∧ H fa = none ∧ Same H H1 ∧ H1 fa = some (.dK (wKV [])), fun fa nf => ⟨fa, rfl, nf, same_new nf, upd_same⟩, ?_⟩
    rintro σ1 H1 ⟨fa, rfl, nfa, s1, hfa1⟩
    have hN1 := hN.same s1
    refine ⟨fun σ2 H2 => ∃ aa, σ2 = [some (.ref A.x), some v, some (.ref fa), some (.ref aa), none, none, none, none, none] ∧ H1 aa = none ∧ Same H1 H2 ∧ H2 aa = some (.lst (natV (openS S [] [t]))), ?_, ?_⟩
    · refine ⟨_, rfl, A.x, A.dx, _, rfl, hN1.hx, rfl, _, rfl, by show 1 ≤ sizeLine; decide, fun q nq => ⟨_, rfl, ?_⟩⟩
      have sq := same_new (o := .lst [v]) nq
      refine ⟨A, S, l, q, fa, [v], [t], [], rfl, hN1.same sq, .inl (SqL.of upd_same), .cons ((hT.pt s1.pt).pt sq.pt) .nil, by show 1 ≤ 100; decide, sq _ _ hfa1, fun u H2 s2 nu hu2 => ⟨u, rfl, sq.free nu, sq.trans s2, hu2⟩⟩
    rintro σ2 H2 ⟨aa, rfl, naa, s2, haa2⟩
    have hN2 := hN1.same s2
    have hfa2 := s2 _ _ hfa1
    have nfa2 : fa ≠ aa := ne_of_none hfa1 naa
    have hfresh : ∀ {b : Addr}, H b = none → b ≠ A.fa ∧ b ∉ A.own ∧ b ∉ fm.out := fun n => hN.new_ne n
    have naa0 : H aa = none := s1.free naa
    -- between two turns
    refine ⟨fun n σ' H' => ∃ (ah : List Nat) (fr : List (Nat × V)) (l' : fm.L) (y4 y5 y6 y7 : Option V), σ' = [some (.ref A.x), some v, some (.ref fa), some (.ref aa), y4, y5, y6, y7, none] ∧ Fz fm.out H H' ∧ NtAt fm C F ns H' A S l' ∧ H' aa = some (.lst (natV ah.reverse)) ∧ H' fa = some (.dK (wKV fr)) ∧
      PiOk S fr ah ∧ FrOk fm S fr ∧ (∀ fr' l'', Wo fm S ah fr l' fr' l'' → Wo fm S (openS S [] [t]) [] l fr' l'') ∧ n = msW S fr ah, ⟨_, openS S [] [t], [], l, none, none, none, none, rfl, (s1.trans s2).fz hN.mo, hN2, ?_, hfa2, ?_, ⟨List.nodup_nil, fun _ h => (nomatch h), fun _ h => (nomatch h), fun _ h => (nomatch h)⟩, fun _ _ h => h, rfl⟩, ?_⟩
    · have hlen : (openS S [] [t]).length ≤ 1 := by
        unfold openS
        rw [List.length_map]
        exact List.length_filter_le _ _
      rw [haa2]
      cases e : openS S [] [t] with
      | nil => rfl
      | cons a l1 =>
        rw [e] at hlen
        cases l1 with
        | nil => rfl
        | cons b l2 => simp at hlen
    · have hlen : (openS S [] [t]).length ≤ 1 := by
        unfold openS
        rw [List.length_map]
        exact List.length_filter_le _ _
      have hm : ∀ n ∈ openS S [] [t], t = .note n ∧ S.worths.lookup n = none := fun n hn => by
        obtain ⟨h1, h2, _⟩ := mem_open.mp hn
        exact ⟨(List.mem_singleton.mp h1).symm, h2⟩
      refine ⟨?_, fun n hn => hOk.1 n (hm n hn).1, fun n hn => (hm n hn).2, fun n hn => rfl⟩
      cases e : openS S [] [t] with
      | nil => exact .nil
      | cons a l1 =>
        rw [e] at hlen
        cases l1 with
        | nil => exact List.pairwise_singleton _ _
        | cons b l2 => simp at hlen
    rintro n σ' H' ⟨ah, fr, l', y4, y5, y6, y7, rfl, z, hN', haa, hfa, hp, hfr, kW, rfl⟩
    refine ⟨_, rfl, _, .inl ⟨_, SqL.of haa, rfl⟩, ?_⟩
    cases ah with
    | nil => exact ifBF rfl ⟨_, rfl, k fa fr l' H' z hN' nfa hfa (kW fr l' .done) hfr⟩
    | cons k0 ah =>
    have hrev : natV (k0 :: ah).reverse = natV ah.reverse ++ [.int (k0 : Nat)] := by
      unfold natV
      rw [List.reverse_cons, List.map_append]
      rfl
    rw [hrev] at haa ⊢
    have hne : (!(natV ah.reverse ++ [V.int (k0 : Nat)]).isEmpty) = true := by
      cases natV ah.reverse <;> rfl
    refine ifB hne ?_
    have hk0 : k0 < S.made.length := hp.lt k0 List.mem_cons_self
    obtain ⟨us, hma, hall⟩ := hN'.hm
    have hget : S.made[k0]? = some S.made[k0] := List.getElem?_eq_getElem hk0
    obtain ⟨u, hu0, ⟨a, b, ps, rfl, hSa, hSb, hps⟩⟩ := hall.getR hget
    refine ⟨fun σ3 H3 => ∃ m', m' < msW S fr (k0 :: ah) ∧ ∃ (ah : List Nat) (fr : List (Nat × V)) (l' : fm.L) (y4 y5 y6 y7 : Option V), σ3 = [some (.ref A.x), some v, some (.ref fa), some (.ref aa), y4, y5, y6, y7, none] ∧ Fz fm.out H H3 ∧ NtAt fm C F ns H3 A S l' ∧ H3 aa = some (.lst (natV ah.reverse)) ∧ H3 fa = some (.dK (wKV fr)) ∧
      PiOk S fr ah ∧ FrOk fm S fr ∧ (∀ fr' l'', Wo fm S ah fr l' fr' l'' → Wo fm S (openS S [] [t]) [] l fr' l'') ∧ m' = msW S fr ah, fun _ _ h => h, ?_⟩
    refine ⟨_, rfl, A.x, C, A.dx, _, _, rfl, hN'.hx, c.c, c.n_made, rfl, _, rfl, 1, rfl, aa, _, -1, _, rfl, rfl, SqL.of haa, atI_last _ _, A.ma, us, _, _, rfl, rfl, SqL.of hma, atI_nat hu0, a, _, rfl, hSa, rfl, _, _, rfl, _, _, rfl, rfl, ?_⟩
    have hlow := hN'.wf.low k0 _ hget
    refine ⟨_, rfl, A.x, A.dx, _, rfl, hN'.hx, rfl, _, rfl, _, rfl, A, S, l', b, fa, ps, S.made[k0].2, fr, rfl, hN', .inr hSb, hps, by rw [hps.len]; exact Nat.le_trans hlow.1 (by decide), hfa, fun q H4 s4 nq hq => ?_⟩
    have hN4 := hN'.same s4
    have haa4 := s4 _ _ haa
    have hfa4 := s4 _ _ hfa
    have z4 := z.trans (s4.fz z.mks)
    refine ⟨_, rfl, _, .inl ⟨_, SqL.of hq, rfl⟩, ?_⟩
    cases ho : openS S fr S.made[k0].2 with
    | cons b0 bs =>
      rw [ho] at hq
      refine ifB rfl ?_
      have hb0 := mem_open.mp (show b0 ∈ openS S fr S.made[k0].2 by rw [ho]; exact List.mem_cons_self)
      have hbk : b0 < k0 := hlow.2 b0 hb0.1
      obtain ⟨n1, n2, n3⟩ := hfresh naa0
      have hc2 : ∀ j ∈ ah, k0 < j := (List.pairwise_cons.mp hp.asc).1
      refine ⟨_, rfl, .inl ⟨rfl, _, SqL.of haa4⟩, _, rfl, q, _, 0, _, rfl, rfl, SqL.of hq, at0, aa, _, _, rfl, rfl, haa4, ?_, msW S fr (b0 :: k0 :: ah), ?_, b0 :: k0 :: ah, fr, l', _, _, _, _, rfl, z4.putN naa0 (.inl ⟨_, rfl⟩), hN4.put (.inl ⟨_, haa4⟩) (.inl ⟨_, rfl⟩) n1 n2 n3, ?_, by rw [upd_ne nfa2]; exact hfa4, ⟨?_, ?_, ?_, ?_⟩, hfr, fun fr' l'' hw => kW fr' l'' (.push hget ho hw), rfl⟩
      · have hn := nodup_lt (n := S.made.length) (l := k0 :: ah) (hp.asc.imp (fun h => Nat.ne_of_lt h)) hp.lt
        have : (natV ah.reverse ++ [V.int (k0 : Nat)]).length = (k0 :: ah).length := by
          unfold natV
          simp
        rw [this]
        exact Nat.lt_of_le_of_lt (Nat.le_trans hn hN.wf.szm) (by decide)
      · show _ + (b0 + 1) < _ + (k0 + 1)
        omega
      · rw [upd_same]
        unfold natV
        simp
      · refine List.pairwise_cons.mpr ⟨fun j hj => ?_, hp.asc⟩
        rcases List.mem_cons.mp hj with rfl | hj
        · exact hbk
        · exact Nat.lt_trans hbk (hc2 j hj)
      all_goals
        intro j hj
        rcases List.mem_cons.mp hj with rfl | hj
        · first | exact Nat.lt_trans hbk hk0 | exact hb0.2.1 | exact hb0.2.2
        · first | exact hp.lt j hj | exact hp.un j hj | exact hp.nf j hj
    | nil =>
      rw [ho] at hq
      refine ifBF rfl ?_
      obtain ⟨fx, hv, hFx⟩ := valF (hN4.wf.ops _ (List.mem_of_getElem? hget))
      have hg := DGet.k (k := .inr S.made[k0].1) hN4.hf
      rw [hv] at hg
      refine ⟨_, rfl, A.x, C, A.dx, _, _, rfl, hN4.hx, c.c, c.n_functions, rfl, _, rfl, A.fa, _, rfl, hg, ?_⟩
      have hSb4 := s4.pt.sq hSb
      refine ⟨fx, fm.Fn S.made[k0].1 fx, _, rfl, ⟨S.made[k0].1, rfl, rfl⟩, lc_into ⟨_, rfl, b, rfl, ⟨_, hSb4⟩, ?_⟩⟩
      refine lc_overA (p := none) (as := S.made[k0].2) (Rel := fun _ t y => y = worthS S fr t) it_tup hps.len.symm (fun _ _ _ _ _ h => h) (fun _ h => nomatch h) (by rw [hps.len]; exact Nat.lt_of_le_of_lt hlow.1 (by decide)) (fun H' kq pt => pt.sq hSb4) ?_ ?_
      · intro i x t0 hx ht H' kq pt R kR
        obtain ⟨t1, e1, hx1⟩ := hps.getL hx
        rw [ht] at e1
        cases e1
        have sm := kq.same
        exact ⟨rfl, _, rfl, A.x, A.dx, _, rfl, (hN4.same sm).hx, rfl, _, rfl, _, rfl, A, S, l', x, t0, fa, fr, rfl, hN4.same sm, (hx1.pt s4.pt).pt pt, sm _ _ hfa4, fun H'' s5 => kR _ _ s5.kq s5.pt rfl⟩
      intro D ys H5 kq pt nD hD all
      refine ⟨D, _, rfl, .inl ⟨SqL.of hD, fun q2 nq2 => ?_⟩⟩
      have sm := kq.same.trans (same_new (o := .tup ys) nq2)
      have hN5 := hN4.same sm
      have eys := All2.map all
      have z5 := z4.trans (sm.fz z4.mks)
      have haa5 := sm _ _ haa4
      have hfa5 := sm _ _ hfa4
      refine ⟨hN5.fns _ hFx, q2, ys, l', rfl, .inl (.inl upd_same), by rw [← all.len]; exact hlow.1, by rw [eys]; exact worth_ok hN5.wf hfr hget ho, hN5.mo, hN5.at_, fun v1 l1 H6 hc hv1 z6 a6 => ?_⟩
      obtain ⟨n1, n2, n3⟩ := hfresh naa0
      obtain ⟨m1, m2, m3⟩ := hfresh nfa
      have haa6 := z6.keep _ _ n3 haa5
      have hfa6 := z6.keep _ _ m3 hfa5
      have hN6 := hN5.call z6 a6
      have hle := hfr.len_lt hk0 (hp.nf k0 List.mem_cons_self)
      have hnf := hp.nf k0 List.mem_cons_self
      refine ⟨_, rfl, _, rfl, 1, rfl, aa, _, -1, _, rfl, rfl, SqL.of haa6, atI_last _ _, fa, _, rfl, DPut.k (k := .inl (k0 : Int)) hfa6 ?_, ?_⟩
      · unfold wKV
        rw [List.length_map]
        exact Nat.lt_of_le_of_lt (Nat.le_trans (Nat.le_of_lt hle) hN.wf.szm) (by decide)
      rw [wKV_put hnf]
      have haa7 : upd H6 fa (.dK (wKV (fr ++ [(k0, v1)]))) aa = some (.lst (natV ah.reverse ++ [.int (k0 : Nat)])) := by
        rw [upd_ne (Ne.symm nfa2)]
        exact haa6
      have hN7 := hN6.put (o := .dK (wKV (fr ++ [(k0, v1)]))) (.inr ⟨_, hfa6⟩) (.inr ⟨_, rfl⟩) m1 m2 m3
      refine ⟨_, rfl, .inl ⟨rfl, _, SqL.of haa7⟩, aa, _, .int (k0 : Nat), rfl, rfl, haa7, by simp, msW S (fr ++ [(k0, v1)]) ah, msW_call hle (fun j hj => hp.lt j (List.mem_cons_of_mem _ hj)), ah, fr ++ [(k0, v1)], l1, _, _, _, _, rfl, ((z5.trans z6).putN nfa (.inr ⟨_, rfl⟩)).putN naa0 (.inl ⟨_, rfl⟩), hN7.put (.inl ⟨_, haa7⟩) (.inl ⟨_, rfl⟩) n1 n2 n3, ?_, ?_, ⟨(List.pairwise_cons.mp hp.asc).2, fun j hj => hp.lt j (List.mem_cons_of_mem _ hj), fun j hj => hp.un j (List.mem_cons_of_mem _ hj), fun j hj => look_snoc (hp.nf j (List.mem_cons_of_mem _ hj)) (Nat.ne_of_gt ((List.pairwise_cons.mp hp.asc).1 j hj))⟩, hfr.more hk0 hnf (hp.un k0 List.mem_cons_self) hv1, fun fr' l'' hw => kW fr' l'' (.call hget ho (by rw [← eys]; exact hc) hw), rfl⟩
      · rw [upd_same, List.dropLast_concat]
      · rw [upd_ne nfa2]
        exact upd_same
end
end K24
set_option Elab.async false
set_option linter.all false
set_option maxRecDepth 100000
set_option maxHeartbeats 4000000
/-! Holding._put_off, _numbers, _work_out. -/
namespace PM
open PySem PySem.Spec PyProof.Rows L2 ZX ZR
theorem All2.app {α β : Type} {R : α → β → Prop} : ∀ {as : List α} {bs : List β} {cs : List α} {ds : List β}, All2 R as bs → All2 R cs ds → All2 R (as ++ cs) (bs ++ ds)
  | _, _, _, _, .nil, h => h
  | _, _, _, _, .cons r t, h => .cons r (All2.app t h)
section
variable {P : Program} {w : World} {K : PySem.W.Frag} {mg : Str → Option Value} {base : Heap} {fm : Fam P w K mg base} {C : Addr} {F : List (Str × Addr)} {ns : List Str} {H H' : Hp} {A : Ad} {S S' : NS} {l l' : fm.L}
theorem NtAt.x_own (h : NtAt fm C F ns H A S l) : A.x ∉ A.own := h.mks.no h.hx fun z => by
  rcases z with ⟨_, z⟩ | ⟨_, z⟩ <;> cases z
theorem NtAt.fa_own (h : NtAt fm C F ns H A S l) : A.fa ∉ A.own := fun hm => (List.nodup_cons.mp h.nd).1 (List.mem_append_left _ hm)
theorem NtAt.ownN (h : NtAt fm C F ns H A S l) : A.own.Nodup := (List.nodup_append.mp (List.nodup_cons.mp h.nd).2).1
/-- only the notes' own are changed -/
theorem NtAt.chg (h : NtAt fm C F ns H A S l) (z : Fz A.own H H')
    (hh : ∃ (kvs : List (Key × V)) (ks : List Str), H' A.ha = some (.dK kvs) ∧ kvs.map (·.1) = ks.map Sum.inr ∧ ks.Nodup ∧ (∀ x ∈ ks, x ∈ ns) ∧ ∀ x, HdR K H' (valV kvs (.inr x)) (S'.heads x))
    (hm : ∃ us : List V, H' A.ma = some (.lst us) ∧ All2 (MdAt K H') us S'.made) (hw : H' A.wa = some (.dK (wKV S'.worths)))
    (ho : H' A.oa = some (.lst (S'.worths.map fun p => .int (p.1 : Nat)))) (hp : H' A.pa = some (.lst S'.printed)) (ht : ∃ us : List V, H' A.ta = some (.lst us) ∧ All2 (MkAt K H') us S'.trail) (wf : WfS fm F ns S') : NtAt fm C F ns H' A S' l :=
  ⟨z.keep _ _ h.x_own h.hx, z.keep _ _ h.fa_own h.hf, fun p hp => fm.fnK (h.fns p hp) h.mks z, hh, hm, hw, ho, hp, ht, h.nd, fun b hb => by
    have nb : b ∉ A.own := fun m => h.own_out b m hb
    rcases h.mo b hb with ⟨_, e⟩ | ⟨_, e⟩
    · exact .inl ⟨_, z.keep _ _ nb e⟩
    · exact .inr ⟨_, z.keep _ _ nb e⟩, fm.atK h.at_ h.mks z (fun b hb m => h.own_out b m hb), wf⟩
theorem NtAt.putZ (h : NtAt fm C F ns H A S l) {b : Addr} {o : HO} (hb : b ∈ A.own) (i : IsM (some o)) : Fz A.own H (upd H b o) := Fz.put h.mks hb i
theorem NtAt.heads (h : NtAt fm C F ns H A S l) (p : Pt H H') (e : H' A.ha = H A.ha) (es : S'.heads = S.heads) : ∃ (kvs : List (Key × V)) (ks : List Str), H' A.ha = some (.dK kvs) ∧ kvs.map (·.1) = ks.map Sum.inr ∧ ks.Nodup ∧ (∀ x ∈ ks, x ∈ ns) ∧ ∀ x, HdR K H' (valV kvs (.inr x)) (S'.heads x) := by
  obtain ⟨kvs, ks, h1, h2, h3, h4, h5⟩ := h.hh
  exact ⟨kvs, ks, e.trans h1, h2, h3, h4, fun x => by
    rw [es]
    exact (h5 x).pt p⟩
theorem NtAt.mades (h : NtAt fm C F ns H A S l) (p : Pt H H') (e : H' A.ma = H A.ma) (es : S'.made = S.made) : ∃ us : List V, H' A.ma = some (.lst us) ∧ All2 (MdAt K H') us S'.made := by
  obtain ⟨us, g1, g2⟩ := h.hm
  rw [es]
  exact ⟨us, e.trans g1, g2.imp fun _ _ q => q.pt p⟩
/-- the own ones are six -/
theorem NtAt.dis (h : NtAt fm C F ns H A S l) : A.ha ≠ A.ma ∧ A.ha ≠ A.wa ∧ A.ha ≠ A.oa ∧ A.ha ≠ A.pa ∧ A.ha ≠ A.ta ∧ A.ma ≠ A.wa ∧ A.ma ≠ A.oa ∧ A.ma ≠ A.pa ∧ A.ma ≠ A.ta ∧ A.wa ≠ A.oa ∧ A.wa ≠ A.pa ∧ A.wa ≠ A.ta ∧ A.oa ≠ A.pa ∧ A.oa ≠ A.ta ∧ A.pa ≠ A.ta := by
  have := h.ownN
  simp only [Ad.own, List.nodup_cons, List.mem_cons, List.not_mem_nil, or_false, not_or] at this
  obtain ⟨⟨a1, a2, a3, a4, a5⟩, ⟨b1, b2, b3, b4⟩, ⟨c1, c2, c3⟩, ⟨d1, d2⟩, e1, _⟩ := this
  exact ⟨a1, a2, a3, a4, a5, b1, b2, b3, b4, c1, c2, c3, d1, d2, e1⟩
theorem NtAt.putMade (h : NtAt fm C F ns H A S l) {u : V} {m : Str × List Th} (hu : MdAt K H u m) {us : List V} (e : H A.ma = some (.lst us)) (wf : WfS fm F ns { S with made := S.made ++ [m] }) : NtAt fm C F ns (upd H A.ma (.lst (us ++ [u]))) A { S with made := S.made ++ [m] } l := by
  have z := h.putZ (b := A.ma) (o := .lst (us ++ [u])) (by simp [Ad.own]) (.inl ⟨_, rfl⟩)
  have p := z.pt h.mks
  obtain ⟨us', g1, g2⟩ := h.hm
  rw [e] at g1
  cases g1
  obtain ⟨d1, d2, d3, d4, d5, d6, d7, d8, d9, _⟩ := h.dis
  obtain ⟨ts, t1, t2⟩ := h.ht
  exact h.chg z (h.heads p (upd_ne d1) rfl) ⟨_, upd_same, All2.app (g2.imp fun _ _ q => q.pt p) (.cons (hu.pt p) .nil)⟩ ((upd_ne (Ne.symm d6)).trans h.hw) ((upd_ne (Ne.symm d7)).trans h.ho) ((upd_ne (Ne.symm d8)).trans h.hp) ⟨ts, (upd_ne (Ne.symm d9)).trans t1, t2.imp fun _ _ q => q.pt p⟩ wf
/-- behind a working out -/
theorem WfS.work {fr : List (Nat × V)} (wf : WfS fm F ns S) (hf : FrOk fm S fr) : WfS fm F ns { S with worths := S.worths ++ fr } := ⟨wf.ops, wf.low, wf.hlow, wf.hin, by
    show ((S.worths ++ fr).map (·.1)).Nodup
    rw [List.map_append]
    exact List.nodup_append.mpr ⟨wf.wn, hf.nd, fun a ha b hb e => by
      obtain ⟨p, hp, rfl⟩ := List.mem_map.mp hb
      exact look_none.mp (hf.un p hp) (by rw [← e]; exact ha)⟩, fun k hk => by
    have hk : k ∈ (S.worths ++ fr).map (·.1) := hk
    rw [List.map_append] at hk
    rcases List.mem_append.mp hk with hk | hk
    · exact wf.wlow k hk
    · obtain ⟨p, hp, rfl⟩ := List.mem_map.mp hk
      exact hf.lt p hp, wf.okh, wf.okm, fun p hp => (List.mem_append.mp hp).elim (wf.okw p) (hf.ok p), wf.szm, wf.szp, wf.szt⟩
theorem WfS.wsz (wf : WfS fm F ns S) : S.worths.length ≤ 50000 := by
  have := nodup_lt wf.wn wf.wlow
  rw [List.length_map] at this
  exact Nat.le_trans this wf.szm
theorem WfS.made {m : Str × List Th} (wf : WfS fm F ns S) (ho : m.1 ∈ F.map (·.1)) (hl : m.2.length ≤ 3) (hk : ∀ t ∈ m.2, OkT fm S t) (hz : S.made.length < 50000) : WfS fm F ns { S with made := S.made ++ [m] } := by
  refine ⟨fun m' hm => ?_, fun k m' hm => ?_, fun x n e => ?_, wf.hin, wf.wn, fun k hk => ?_, wf.okh, fun m' hm => ?_, wf.okw, ?_, wf.szp, wf.szt⟩
  · rcases List.mem_append.mp hm with hm | hm
    · exact wf.ops m' hm
    · rw [List.mem_singleton.mp hm]
      exact ho
  · have hm : (S.made ++ [m])[k]? = some m' := hm
    by_cases e : k < S.made.length
    · rw [List.getElem?_append_left e] at hm
      exact wf.low k m' hm
    · rw [List.getElem?_append_right (Nat.le_of_not_lt e)] at hm
      cases ek : k - S.made.length with
      | zero =>
        rw [ek] at hm
        cases hm
        exact ⟨hl, fun n hn => Nat.lt_of_lt_of_le ((hk _ hn).1 n rfl) (Nat.le_of_not_lt e)⟩
      | succ j =>
        rw [ek] at hm
        cases hm
  · show n < (S.made ++ [m]).length
    rw [List.length_append]
    exact Nat.lt_of_lt_of_le (wf.hlow x n e) (Nat.le_add_right _ _)
  · show k < (S.made ++ [m]).length
    rw [List.length_append]
    exact Nat.lt_of_lt_of_le (wf.wlow k hk) (Nat.le_add_right _ _)
  · rcases List.mem_append.mp hm with hm | hm
    · exact wf.okm m' hm
    · rw [List.mem_singleton.mp hm]
      exact fun v hv => (hk _ hv).2 v rfl
  · show (S.made ++ [m]).length ≤ 50000
    rw [List.length_append]
    exact hz
theorem keys_w (ws : List (Nat × V)) : (wKV ws).map (fun kv => kV kv.1) = ws.map fun p => .int (p.1 : Nat) := by
  unfold wKV
  rw [List.map_map]
  rfl
theorem wKV_app (a b : List (Nat × V)) : wKV (a ++ b) = wKV a ++ wKV b := List.map_append
theorem wKV_nd {ws : List (Nat × V)} (h : (ws.map (·.1)).Nodup) : ((wKV ws).map (·.1)).Nodup := by
  have e : (wKV ws).map (·.1) = (ws.map (·.1) : List Nat).map fun (n : Nat) => (Sum.inl (n : Int) : Key) := by
    unfold wKV
    rw [List.map_map, List.map_map]
    rfl
  rw [e]
  exact List.pairwise_map.mpr (h.imp fun hab e => hab (by injection e with e; omega))
end
end PM
namespace K24
open PySem PySem.Spec PyProof.Rows L2 ZX PM ZR
abbrev sHPutOff : Stmt := inClass (top 50) 6
abbrev sHNumbers : Stmt := inClass (top 50) 7
abbrev sHWorkOut : Stmt := inClass (top 50) 11
section
variable {P : Program} {w : World} {K : PySem.W.Frag} {mg : Str → Option Value} {base : Heap} {C : Addr} {F : List (Str × Addr)} {ns : List Str}
def spPutOff (fm : Fam P w K mg base) (C : Addr) (F : List (Str × Addr)) (ns : List Str) : Sp := fun vs H Q _ => ∃ (A : Ad) (S : NS) (l : fm.L) (o : Str) (t : Addr) (us : List V) (ts : List Th), vs = [.ref A.x, .str o, .ref t] ∧ NtAt fm C F ns H A S l ∧ SqT K H t us ∧ All2 (ThAt K H) us ts ∧
  ts.length ≤ 3 ∧ o ∈ F.map (·.1) ∧ (∀ u ∈ ts, OkT fm S u) ∧ S.made.length < 50000 ∧ ∀ H', Fz A.own H H' → NtAt fm C F ns H' A { S with made := S.made ++ [(o, ts)] } l → Q (.int S.made.length) H'
theorem scHPutOff : FnScope ["self", "op", "parts"] ["self", "op", "parts"] (defScope sHPutOff) := ⟨rfl, rfl, rfl, by decide +kernel, rfl, by decide +kernel, by decide +kernel⟩
theorem ok_put_off {fm : Fam P w K mg base} {f : Addr} {fd : FuncData} (FD : FunD K "_put_off" "Holding._put_off" (defArgs sHPutOff) (defBody sHPutOff) (defScope sHPutOff) [] [] f fd) (T : Bi mg) (c : NtC K C) : FnOk P w K mg base CX0 1 f fd ["self", "op", "parts"] (spPutOff fm C F ns) := by
  refine FD.ok scHPutOff (fun vs H Q E h => ?_) (fun cdv A0 outer s H vs Q E hr h => ?_)
  · obtain ⟨A, S, l, o, t, us, ts, rfl, _⟩ := h
    rfl
  · obtain ⟨A, S, l, o, t, us, ts, rfl, hN, hT, hA, h3, hF, hO, hz, k⟩ := h
    refine ⟨_, PSs.nox (pss_cons (ps_expr (pe_bm PySem.F.plainAttrs_list PySem.F.slot_list_append PySem.F.type_list_append mt_append (pe_fld (pv 0) rfl) (pa_cons (pe_tup (pa_cons (pv 1) (pa_cons (pv 2) pa_nil))) pa_nil)))
    (pss_one (ps_ret (pe_op op_sub (pe_callB call_len_seq (by rfl) T.b_len (by decide +kernel) (pa_cons (pe_fld (pv 0) rfl) pa_nil)) pe_int)))), ?_⟩
    obtain ⟨us0, g1, g2⟩ := hN.hm
    refine ⟨_, rfl, A.x, C, A.dx, _, _, rfl, hN.hx, c.c, c.n_made, rfl, .inl ⟨rfl, _, SqL.of g1⟩, _, rfl, _, rfl, by show 2 ≤ sizeLine; decide, fun q nq => ?_⟩
    have sm := same_new (o := .tup [.str o, .ref t]) nq
    have hN1 := hN.same sm
    have hN2 := hN1.putMade (m := (o, ts)) ⟨q, t, us, rfl, .inl (.inl upd_same), sm.pt.sq hT, hA.imp fun _ _ h => h.pt sm.pt⟩ (sm _ _ g1) (hN.wf.made hF h3 hO hz)
    have el : us0.length = S.made.length := g2.len
    refine ⟨A.ma, us0, _, rfl, rfl, sm _ _ g1, by rw [el]; exact Nat.lt_of_lt_of_le hz (by decide), ?_⟩
    refine ⟨_, rfl, A.x, C, A.dx, _, _, rfl, hN2.hx, c.c, c.n_made, rfl, A.ma, _, rfl, .inl (SqL.of upd_same), _, _, rfl, rfl, ?_⟩
    rw [List.length_append, el]
    have e : ((S.made.length + [V.ref q].length : Nat) : Int) - 1 = (S.made.length : Int) := by
      simp
    show Q (.int (((S.made.length + [V.ref q].length : Nat) : Int) - 1)) _
    rw [e]
    exact k _ ((sm.fz hN.mks).trans (hN1.putZ (by simp [Ad.own]) (.inl ⟨_, rfl⟩))) hN2
def spNumbers : Sp := fun vs H Q _ => ∃ (x : V) (a : Addr) (kvs : List (Key × V)), vs = [x, .ref a] ∧ H a = some (.dK kvs) ∧ ∀ q H', Same H H' → H q = none → H' q = some (.lst (kvs.map fun kv => kV kv.1)) → Q (.ref q) H'
theorem scHNumbers : FnScope ["self", "kept"] ["self", "kept"] (defScope sHNumbers) := ⟨rfl, rfl, rfl, by decide +kernel, rfl, by decide +kernel, by decide +kernel⟩
theorem ok_numbers {f : Addr} {fd : FuncData} (FD : FunD K "_numbers" "Holding._numbers" (defArgs sHNumbers) (defBody sHNumbers) (defScope sHNumbers) [] [] f fd) (T : Bi mg) : FnOk P w K mg base CX0 1 f fd ["self", "kept"] spNumbers := by
  refine FD.ok scHNumbers (fun vs H Q E h => ?_) (fun cdv A0 outer s H vs Q E hr h => ?_)
  · obtain ⟨x, a, kvs, rfl, _⟩ := h
    rfl
  · obtain ⟨x, a, kvs, rfl, hd, k⟩ := h
    refine ⟨_, PSs.nox (pss_one (ps_ret (pe_callTy (call_listD rfl) (by rfl) T.b_list (by decide +kernel) (pa_cons (pv 1) pa_nil)))), ?_⟩
    exact ⟨_, rfl, a, kvs, rfl, .inl hd, fun p np => k p _ (same_new np) np upd_same⟩
def spWorkOut (fm : Fam P w K mg base) (C : Addr) (F : List (Str × Addr)) (ns : List Str) : Sp := fun vs H Q _ => ∃ (A : Ad) (S : NS) (l : fm.L) (v : V) (t : Th), vs = [.ref A.x, v] ∧ NtAt fm C F ns H A S l ∧ ThAt K H v t ∧ OkT fm S t ∧
  ∀ fr l' H', Fz (A.own ++ fm.out) H H' → NtAt fm C F ns H' A { S with worths := S.worths ++ fr } l' → Wo fm S (openS S [] [t]) [] l fr l' → FrOk fm S fr → Q (.int fr.length) H'
theorem scHWorkOut : FnScope ["self", "thing", "fresh"] ["self", "thing"] (defScope sHWorkOut) := ⟨rfl, rfl, rfl, by decide +kernel, rfl, by decide +kernel, by decide +kernel⟩
theorem ok_work_out {fm : Fam P w K mg base} {f : Addr} {fd : FuncData} (FD : FunD K "_work_out" "Holding._work_out" (defArgs sHWorkOut) (defBody sHWorkOut) (defScope sHWorkOut) [] [] f fd) (T : Bi mg) (c : NtC K C) (M_wo : MCal P w K mg base C "_worked_out" (fm.lev + 3) ["self", "thing"] (spWorkedOut fm C F ns)) (M_nu : MCal P w K mg base C "_numbers" 1 ["self", "kept"] spNumbers) : FnOk P w K mg base CX0 (fm.lev + 4) f fd ["self", "thing"] (spWorkOut fm C F ns) := by
  refine FD.ok scHWorkOut (fun vs H Q E h => ?_) (fun cdv A0 outer s H vs Q E hr h => ?_)
  · obtain ⟨A, S, l, v, t, rfl, _⟩ := h
    rfl
  · obtain ⟨A, S, l, v, t, rfl, hN, hT, hOk, k⟩ := h
    have hr1 := hr.mono (show 1 ≤ fm.lev + 3 by omega)
    refine ⟨_, PSs.nox (pss_cons (ps_set (i := 2) scHWorkOut.nd rfl (Or.inl rfl) (pmc M_wo hr (pv 0) (pa_cons (pv 1) pa_nil)))
    (pss_cons (ps_expr (pe_bm PySem.F.plainAttrs_dict PySem.F.slot_dict_update PySem.F.type_dict_update mtd_update (pe_fld (pv 0) rfl) (pa_cons (pv 2) pa_nil)))
    (pss_cons (ps_expr (pe_bm PySem.F.plainAttrs_list PySem.F.slot_list_extend PySem.F.type_list_extend mt_extend (pe_fld (pv 0) rfl) (pa_cons (pmc M_nu hr1 (pv 0) (pa_cons (pv 2) pa_nil)) pa_nil)))
    (pss_one (ps_ret (pe_callB call_lenD (by rfl) T.b_len (by decide +kernel) (pa_cons (pv 2) pa_nil))))))), ?_⟩
    refine ⟨_, rfl, A.x, A.dx, _, rfl, hN.hx, rfl, _, rfl, A, S, l, v, t, rfl, hN, hT, hOk, fun q fr l' H1 z1 hN1 nq hq hW hf => ?_⟩
    obtain ⟨n1, n2, n3⟩ := hN.new_ne nq
    have qw : q ≠ A.wa := fun e => n2 (by rw [e]; simp [Ad.own])
    have qo : q ≠ A.oa := fun e => n2 (by rw [e]; simp [Ad.own])
    have wf2 := hN1.wf.work hf
    have z0 := (z1.mono (M' := A.own ++ fm.out) (fun b hb => List.mem_append_right _ hb) hN.mksO)
    obtain ⟨_, d2, d3, _, _, d6, d7, _, _, dwo, dwp, dwt, dop, dot, _⟩ := hN.dis
    have ew : mergeK (wKV S.worths) (wKV fr) = wKV (S.worths ++ fr) := by
      rw [merge_fresh _ _ (by rw [← wKV_app]; exact wKV_nd wf2.wn), wKV_app]
    have sz := wf2.wsz
    have sz' : S.worths.length + fr.length ≤ 50000 := by
      have : (S.worths ++ fr).length ≤ 50000 := sz
      rwa [List.length_append] at this
    refine ⟨_, rfl, A.x, C, A.dx, _, _, rfl, hN1.hx, c.c, c.n_worths, rfl, .inr (.inr (.inl ⟨rfl, .inl ⟨_, hN1.hw⟩⟩)), _, rfl, A.wa, q, _, _, rfl, rfl, Ne.symm qw, hN1.hw, hq, ?_, ?_⟩
    · unfold wKV
      rw [List.length_map, List.length_map]
      exact Nat.le_trans sz' (by decide)
    rw [ew]
    have z2 : Fz A.own H1 (upd H1 A.wa (.dK (wKV (S.worths ++ fr)))) := hN1.putZ (by simp [Ad.own]) (.inr ⟨_, rfl⟩)
    have hx2 := z2.keep _ _ hN1.x_own hN1.hx
    have hq2 : upd H1 A.wa (.dK (wKV (S.worths ++ fr))) q = some (.dK (wKV fr)) := (upd_ne qw).trans hq
    refine ⟨_, rfl, A.x, C, A.dx, _, _, rfl, hx2, c.c, c.n_order, rfl, .inl ⟨rfl, _, SqL.of ((upd_ne (Ne.symm dwo)).trans hN1.ho)⟩, _, rfl, A.x, A.dx, _, rfl, hx2, rfl, _, rfl, _, q, _, rfl, hq2, fun p H3 s3 np hp => ?_⟩
    rw [keys_w] at hp
    have po : p ≠ A.oa := fun e => by
      rw [e, upd_ne (Ne.symm dwo), hN1.ho] at np
      cases np
    have ho3 := s3 _ _ ((upd_ne (Ne.symm dwo)).trans hN1.ho)
    have z3 := z2.trans (s3.fz z2.mks)
    have z4 : Fz A.own H1 (upd H3 A.oa (.lst (S.worths.map (fun p => V.int (p.1 : Nat)) ++ fr.map (fun p => V.int (p.1 : Nat))))) := z3.trans (Fz.put z3.mks (by simp [Ad.own]) (.inl ⟨_, rfl⟩))
    refine ⟨A.oa, p, _, _, rfl, rfl, ho3, hp, ?_, ?_⟩
    · rw [List.length_map, List.length_map]
      exact Nat.le_trans sz' (by decide)
    have hq4 : upd H3 A.oa (.lst (S.worths.map (fun p => V.int (p.1 : Nat)) ++ fr.map (fun p => V.int (p.1 : Nat)))) q = some (.dK (wKV fr)) := (upd_ne qo).trans (s3 _ _ hq2)
    refine ⟨_, rfl, q, _, rfl, hq4, ?_⟩
    have hl : (wKV fr).length = fr.length := by
      unfold wKV
      rw [List.length_map]
    rw [hl]
    have kp : ∀ {b : Addr} {o : HO}, b ≠ A.wa → b ≠ A.oa → H1 b = some o → upd H3 A.oa (.lst (S.worths.map (fun p => V.int (p.1 : Nat)) ++ fr.map (fun p => V.int (p.1 : Nat)))) b = some o := fun h1 h2 e => (upd_ne h2).trans (s3 _ _ ((upd_ne h1).trans e))
    obtain ⟨kvs, ks, h1, h2, h3, h4, h5⟩ := hN1.hh
    obtain ⟨us, g1, g2⟩ := hN1.hm
    obtain ⟨ts, t1, t2⟩ := hN1.ht
    have pt := z4.pt hN1.mks
    have hN4 : NtAt fm C F ns _ A { S with worths := S.worths ++ fr } l' := hN1.chg z4 ⟨kvs, ks, kp d2 d3 h1, h2, h3, h4, fun x => (h5 x).pt pt⟩ ⟨us, kp d6 d7 g1, g2.imp fun _ _ q => q.pt pt⟩ ((upd_ne dwo).trans (s3 _ _ upd_same)) (by rw [upd_same, List.map_append]) (kp (Ne.symm dwp) (Ne.symm dop) hN1.hp) ⟨ts, kp (Ne.symm dwt) (Ne.symm dot) t1, t2.imp fun _ _ q => q.pt pt⟩ wf2
    exact k fr l' _ (z0.trans (z4.mono (fun b hb => List.mem_append_left _ hb) hN1.mksO)) hN4 hW hf
end
end K24
set_option Elab.async false
set_option linter.all false
set_option maxRecDepth 100000
set_option maxHeartbeats 4000000
/-! Holding.do. -/
namespace PM
open PySem PySem.Spec PyProof.Rows L2 ZX ZR
def whatT : Th → V
  | .note n => .int (n : Nat)
  | .worth v => v
theorem thV_two (t : Th) : ∃ s : Str, thV t = [.str s, whatT t] := by
  cases t <;> exact ⟨_, rfl⟩
def setH (h : Str → Option Th) (x : Str) (t : Th) : Str → Option Th := fun y => if y = x then some t else h y
theorem All2.turn {α : Type} {R : V → Th → Prop} {f : α → Th} : ∀ {as : List α} {ys : List V}, All2 (fun c y => R y (f c)) as ys → All2 R ys (as.map f)
  | _, _, .nil => .nil
  | _, _, .cons r t => .cons r (All2.turn t)
theorem putK_keys {kvs : List (Key × V)} {k : Key} {v u : V} (h : valV kvs k = some u) : (putK kvs k v).map (·.1) = kvs.map (·.1) := by
  have ha : (kvs.any fun kv => decide (kv.1 = k)) = true := by
    rw [valV_any, h]
    rfl
  unfold putK
  rw [if_pos ha, List.map_map]
  refine List.map_congr_left fun p _ => ?_
  show (if p.1 = k then (p.1, v) else p).1 = p.1
  split <;> rfl
section
variable {P : Program} {w : World} {K : PySem.W.Frag} {mg : Str → Option Value} {base : Heap}
/-- what a row does with a run's notes -/
inductive DoS (fm : Fam P w K mg base) (S : NS) (l : fm.L) : Rw → NS → fm.L → Prop
  | note {x o : Str} {ps : List Str} : DoS fm S l (.note x o ps) { S with heads := setH S.heads x (.note S.made.length), made := S.made ++ [(o, ps.map (heldS S))] } l
  | copy {x y : Str} : DoS fm S l (.copy x y) { S with heads := setH S.heads x (heldS S y) } l
  | give {x : Str} {i : Int} : DoS fm S l (.give x i) { S with heads := setH S.heads x (.worth (.int i)) } l
  | ask {x : Str} {fr : List (Nat × V)} {l' : fm.L} (h : Wo fm S (openS S [] [heldS S x]) [] l fr l') (hf : FrOk fm S fr) : DoS fm S l (.ask x) { S with worths := S.worths ++ fr } l'
  | prt {x : Str} {fr : List (Nat × V)} {l' : fm.L} (h : Wo fm S (openS S [] [heldS S x]) [] l fr l') (hf : FrOk fm S fr) : DoS fm S l (.prt x) { S with worths := S.worths ++ fr, printed := S.printed ++ [whatT (heldS { S with worths := S.worths ++ fr } x)] } l'
  | either {a b : List Rw} : DoS fm S l (.either a b) S l
  | again {a : List Rw} : DoS fm S l (.again a) S l
variable {fm : Fam P w K mg base} {C : Addr} {F : List (Str × Addr)} {ns : List Str} {H H' : Hp} {A : Ad} {S S' : NS} {l l' : fm.L}
theorem WfS.setH {x : Str} {t : Th} (wf : WfS fm F ns S) (hx : x ∈ ns) (ht : OkT fm S t) : WfS fm F ns { S with heads := PM.setH S.heads x t } := by
  have key : ∀ y u, PM.setH S.heads x t y = some u → (y = x ∧ u = t) ∨ S.heads y = some u := fun y u e => by
    unfold PM.setH at e
    split at e
    · rename_i ey
      cases e
      exact .inl ⟨ey, rfl⟩
    · exact .inr e
  refine ⟨wf.ops, wf.low, fun y n e => ?_, fun y u e => ?_, wf.wn, wf.wlow, fun y v e => ?_, wf.okm, wf.okw, wf.szm, wf.szp, wf.szt⟩
  · rcases key y _ e with ⟨_, e2⟩ | e2
    · exact ht.1 n e2.symm
    · exact wf.hlow y n e2
  · rcases key y _ e with ⟨e1, _⟩ | e2
    · rw [e1]
      exact hx
    · exact wf.hin y u e2
  · rcases key y _ e with ⟨_, e2⟩ | e2
    · exact ht.2 v e2.symm
    · exact wf.okh y v e2
theorem WfS.print (wf : WfS fm F ns S) (v : V) (hz : S.printed.length < 50000) : WfS fm F ns { S with printed := S.printed ++ [v] } := ⟨wf.ops, wf.low, wf.hlow, wf.hin, wf.wn, wf.wlow, wf.okh, wf.okm, wf.okw, wf.szm, by
    show (S.printed ++ [v]).length ≤ 50000
    rw [List.length_append]
    exact hz, wf.szt⟩
theorem NtAt.putPrinted (h : NtAt fm C F ns H A S l) (v : V) (hz : S.printed.length < 50000) : NtAt fm C F ns (upd H A.pa (.lst (S.printed ++ [v]))) A { S with printed := S.printed ++ [v] } l := by
  have z := h.putZ (b := A.pa) (o := .lst (S.printed ++ [v])) (by simp [Ad.own]) (.inl ⟨_, rfl⟩)
  have p := z.pt h.mks
  obtain ⟨d1, d2, d3, d4, d5, d6, d7, d8, d9, e1, e2, e3, e4, e5, e6⟩ := h.dis
  obtain ⟨ts, t1, t2⟩ := h.ht
  exact h.chg z (h.heads p (upd_ne d4) rfl) (h.mades p (upd_ne d8) rfl) ((upd_ne e2).trans h.hw) ((upd_ne e4).trans h.ho) upd_same ⟨ts, (upd_ne (Ne.symm e6)).trans t1, t2.imp fun _ _ q => q.pt p⟩ (h.wf.print v hz)
/-- d[x] = v, where d's keys are the names -/
theorem NtAt.putHead (h : NtAt fm C F ns H A S l) {x : Str} {v : V} {t : Th} (hv : ThAt K H v t) (hx : x ∈ ns) (ok : OkT fm S t) (hns : ns.length ≤ 1000) :
    ∃ kvs, H A.ha = some (.dK kvs) ∧ kvs.length < sizeLine ∧ NtAt fm C F ns (upd H A.ha (.dK (putK kvs (.inr x) v))) A { S with heads := PM.setH S.heads x t } l := by
  obtain ⟨kvs, ks, h1, h2, h3, h4, h5⟩ := h.hh
  have z := h.putZ (b := A.ha) (o := .dK (putK kvs (.inr x) v)) (by simp [Ad.own]) (.inr ⟨_, rfl⟩)
  have p := z.pt h.mks
  have hl : kvs.length = ks.length := by
    have := congrArg List.length h2
    rwa [List.length_map, List.length_map] at this
  obtain ⟨d1, d2, d3, d4, d5, _⟩ := h.dis
  obtain ⟨ts, t1, t2⟩ := h.ht
  obtain ⟨us, g1, g2⟩ := h.hm
  refine ⟨kvs, h1, ?_, h.chg z ?_ ⟨us, (upd_ne (Ne.symm d1)).trans g1, g2.imp fun _ _ q => q.pt p⟩ ((upd_ne (Ne.symm d2)).trans h.hw) ((upd_ne (Ne.symm d3)).trans h.ho) ((upd_ne (Ne.symm d4)).trans h.hp) ⟨ts, (upd_ne (Ne.symm d5)).trans t1, t2.imp fun _ _ q => q.pt p⟩ (h.wf.setH hx ok)⟩
  · rw [hl]
    exact Nat.lt_of_le_of_lt (Nat.le_trans (h3.length_le_of_subset fun y hy => h4 y hy) hns) (by decide)
  · have hval : ∀ y, HdR K (upd H A.ha (.dK (putK kvs (.inr x) v))) (valV (putK kvs (.inr x) v) (.inr y)) (PM.setH S.heads x t y) := fun y => by
      rw [valV_put]
      unfold PM.setH
      by_cases e : y = x
      · subst e
        rw [if_pos rfl, if_pos rfl]
        exact hv.pt p
      · rw [if_neg e, if_neg (fun z => e (by injection z))]
        exact (h5 y).pt p
    cases hk : valV kvs (.inr x) with
    | some u => exact ⟨_, ks, upd_same, (putK_keys hk).trans h2, h3, h4, hval⟩
    | none =>
      have hn := valV_not hk
      rw [putK_new v hk]
      have hk' : x ∉ ks := fun m => hn (by rw [h2]; exact List.mem_map_of_mem m)
      refine ⟨_, ks ++ [x], upd_same, by rw [List.map_append, h2, List.map_append]; rfl, List.nodup_append.mpr ⟨h3, by simp, fun a ha b hb e => hk' (by rw [List.mem_singleton.mp hb] at e; rw [← e]; exact ha)⟩, fun y hy => (List.mem_append.mp hy).elim (h4 y) fun hy => by rw [List.mem_singleton.mp hy]; exact hx, ?_⟩
      rw [← putK_new v hk]
      exact hval
end
end PM
namespace K24
open PySem PySem.Spec PyProof.Rows L2 ZX PM ZR
abbrev sHDo : Stmt := inClass (top 50) 1
section
variable {P : Program} {w : World} {K : PySem.W.Frag} {mg : Str → Option Value} {base : Heap} {C : Addr} {F : List (Str × Addr)} {ns : List Str}
/-- a row that may be done: its op is known, its names are -/
structure RwOk (F : List (Str × Addr)) (ns : List Str) (r : Rw) : Prop where
  ops : ∀ x o ps, r = .note x o ps → o ∈ F.map (·.1) ∧ ps.length ≤ 3
  nms : ∀ x ∈ namesR r, x ∈ ns
def spHDo (fm : Fam P w K mg base) (C : Addr) (F : List (Str × Addr)) (ns : List Str) : Sp := fun vs H Q _ => ∃ (A : Ad) (S : NS) (l : fm.L) (v : V) (r : Rw), vs = [.ref A.x, v] ∧ NtAt fm C F ns H A S l ∧ RV K H v r ∧ RwOk F ns r ∧
  S.made.length < 50000 ∧ S.printed.length < 50000 ∧ ∀ S' l' H', Fz (A.own ++ fm.out) H H' → NtAt fm C F ns H' A S' l' → DoS fm S l r S' l' → Q .non H'
abbrev NHD : List Str := ["self", "row", "word", "parts", "name"]
theorem scHDo : FnScope NHD ["self", "row"] (defScope sHDo) := ⟨rfl, rfl, rfl, by decide +kernel, rfl, by decide +kernel, by decide +kernel⟩
theorem ok_hdo {fm : Fam P w K mg base} {f : Addr} {fd : FuncData} (FD : FunD K "do" "Holding.do" (defArgs sHDo) (defBody sHDo) (defScope sHDo) [] [] f fd) (T : Bi mg) (c : NtC K C) (hA : Asking K mg) (hns : ns.length ≤ 1000)
    (M_wo : MCal P w K mg base C "_work_out" (fm.lev + 4) ["self", "thing"] (spWorkOut fm C F ns)) (M_held : MCal P w K mg base C "held" 2 ["self", "name"] (spHeld fm C F ns)) (M_po : MCal P w K mg base C "_put_off" 1 ["self", "op", "parts"] (spPutOff fm C F ns)) : FnOk P w K mg base CX0 (fm.lev + 5) f fd ["self", "row"] (spHDo fm C F ns) := by
  refine FD.ok scHDo (fun vs H Q E h => ?_) (fun cdv A0 outer s H vs Q E hr h => ?_)
  · obtain ⟨A, S, l, v, r, rfl, _⟩ := h
    rfl
  · obtain ⟨A, S, l, v, r, rfl, hN, tr, hR, hzm, hzp, k⟩ := h
    obtain ⟨ask, m_ASKING, hask⟩ := hA
    have hu := hu_of hr
    have hr1 := hr.mono (show 1 ≤ fm.lev + 4 by omega)
    have hr2 := hr.mono (show 2 ≤ fm.lev + 4 by omega)
    refine ⟨_, PSs.nox (pss_cons (ps_set (i := 2) scHDo.nd rfl (Or.inl rfl) (pe_ix ix_tup (pv 1) pe_int (fun _ _ => rfl)))
    (pss_cons (ps_if (pt_cmpR op_in_seq (pv 2) (pe_glob (v := .ref _) rfl m_ASKING rfl) (by with_unfolding_all rfl)) (pss_one (ps_expr (pmc M_wo hr (pv 0) (pa_cons (pmc M_held hr2 (pv 0) (pa_cons (pe_ix ix_tup (pv 1) pe_int (fun _ _ => rfl)) pa_nil)) pa_nil)))) pss_nil)
    (pss_one (ps_if (pt_cmpR op_eq (pv 2) pe_str (nomark _)) (pss_one (ps_expr (pe_bm PySem.F.plainAttrs_list PySem.F.slot_list_append PySem.F.type_list_append mt_append (pe_fld (pv 0) rfl) (pa_cons (pe_ix ix_tup (pmc M_held hr2 (pv 0) (pa_cons (pe_ix ix_tup (pv 1) pe_int (fun _ _ => rfl)) pa_nil)) pe_int (fun _ _ => rfl)) pa_nil))))
    (pss_one (ps_if (pt_cmpR op_eq (pv 2) pe_str (nomark _)) (pss_cons (ps_set (i := 3) scHDo.nd rfl (Or.inl rfl) (pe_callTy call_tuple_of (by rfl) T.b_tuple (by decide +kernel) (pa_cons (pe_lcS (own := [("name", 4)]) (g := gName 4) (tt := tYes) (te := tMeth C "held" (spHeld fm C F ns) [] E0 (tVar 0) (tCons (tVar 4) tNil)) (by rfl) scHDo.nd (pi_tup (pe_ix ix_tup (pv 1) pe_int (fun _ _ => rfl))) (blkOk_by (N := NHD) (sc := defScope sHDo) (by decide +kernel)) (fun _ _ _ _ _ => (pg_name (i := 4) scHDo.nd rfl (Or.inl rfl))) (fun _ _ _ _ _ => pts_nil) (fun _ _ _ _ _ => (pmc M_held hr2 (pv 0) (pa_cons (pv 4) pa_nil)))) pa_nil)))
        (pss_one (ps_dput hu (pe_fld (pv 0) rfl) (pe_ix ix_tup (pv 1) pe_int (fun _ _ => rfl)) (pe_tup (pa_cons pe_str (pa_cons (pmc M_po hr1 (pv 0) (pa_cons (pe_ix ix_tup (pv 1) pe_int (fun _ _ => rfl)) (pa_cons (pv 3) pa_nil))) pa_nil))) rfl)))
    (pss_one (ps_if (pt_cmpR op_eq (pv 2) pe_str (nomark _)) (pss_one (ps_dput hu (pe_fld (pv 0) rfl) (pe_ix ix_tup (pv 1) pe_int (fun _ _ => rfl)) (pmc M_held hr2 (pv 0) (pa_cons (pe_ix ix_tup (pv 1) pe_int (fun _ _ => rfl)) pa_nil)) rfl))
    (pss_one (ps_if (pt_cmpR op_eq (pv 2) pe_str (nomark _)) (pss_one (ps_dput hu (pe_fld (pv 0) rfl) (pe_ix ix_tup (pv 1) pe_int (fun _ _ => rfl)) (pe_tup (pa_cons pe_str (pa_cons (pe_ix ix_tup (pv 1) pe_int (fun _ _ => rfl)) pa_nil))) rfl))
    (pss_one (ps_if (pt_cmpR op_eq (pv 2) pe_str (nomark _)) pss_never pss_nil)))))))))))), ?_⟩
    obtain ⟨ra, tl, rfl, hrS, hrt⟩ := tr.rowI
    refine ⟨_, rfl, _, _, _, _, rfl, rfl, hrS, at0, ?_⟩
    refine ⟨_, rfl, _, _, rfl, .inr (hask _), rfl, rfl, _, rfl, ?_⟩
    show if inV (V.str (wordR r)) [V.str "ask", V.str "print"] = true then _ else _
    have kp : ∀ {H1}, Fz A.own H H1 → Fz (A.own ++ fm.out) H H1 := fun z => z.mono (fun b hb => List.mem_append_left _ hb) hN.mksO
    cases r with
    | ask x =>
      obtain ⟨v1, rfl, t1⟩ := hrt.one
      cases t1.strI
      refine ifB (show inV (V.str (Str.ofString "ask")) [V.str (Str.ofString "ask"), V.str (Str.ofString "print")] = true by decide +kernel) ?_
      refine ⟨_, rfl, A.x, A.dx, _, rfl, hN.hx, rfl, _, rfl, A.x, A.dx, _, rfl, hN.hx, rfl, _, rfl, _, _, _, _, rfl, rfl, hrS, rfl, A, S, l, x, rfl, hN, fun u H1 s1 hu1 => ?_⟩
      refine ⟨A, S, l, u, heldS S x, rfl, hN.same s1, hu1, hN.wf.held, fun fr l' H2 z2 hN2 hW hf => ?_⟩
      refine ⟨_, rfl, rfl, _, rfl, ifDF (neS (a := "ask") (b := "print") (by decide +kernel)) ⟨_, rfl, rfl, _, rfl, ifDF (neS (a := "ask") (b := "note") (by decide +kernel)) ⟨_, rfl, rfl, _, rfl, ifDF (neS (a := "ask") (b := "copy") (by decide +kernel)) ⟨_, rfl, rfl, _, rfl, ifDF (neS (a := "ask") (b := "give") (by decide +kernel)) ⟨_, rfl, rfl, _, rfl, ifDF (neS (a := "ask") (b := "drop") (by decide +kernel)) ?_⟩⟩⟩⟩⟩
      exact k _ l' _ ((s1.fz hN.mksO).trans z2) hN2 (.ask hW hf)
    | prt x =>
      obtain ⟨v1, rfl, t1⟩ := hrt.one
      cases t1.strI
      refine ifB (show inV (V.str (Str.ofString "print")) [V.str (Str.ofString "ask"), V.str (Str.ofString "print")] = true by decide +kernel) ?_
      refine ⟨_, rfl, A.x, A.dx, _, rfl, hN.hx, rfl, _, rfl, A.x, A.dx, _, rfl, hN.hx, rfl, _, rfl, _, _, _, _, rfl, rfl, hrS, rfl, A, S, l, x, rfl, hN, fun u H1 s1 hu1 => ?_⟩
      refine ⟨A, S, l, u, heldS S x, rfl, hN.same s1, hu1, hN.wf.held, fun fr l' H2 z2 hN2 hW hf => ?_⟩
      have z02 := (s1.fz hN.mksO).trans z2
      have hrS2 := (z02.pt hN.mksO).sq hrS
      refine ⟨_, rfl, rfl, _, rfl, ifD rfl ?_⟩
      refine ⟨_, rfl, A.x, C, A.dx, _, _, rfl, hN2.hx, c.c, c.n_printed, rfl, .inl ⟨rfl, _, SqL.of hN2.hp⟩, _, rfl, A.x, A.dx, _, rfl, hN2.hx, rfl, _, rfl, _, _, _, _, rfl, rfl, hrS2, rfl, A, _, l', x, rfl, hN2, fun u3 H3 s3 hu3 => ?_⟩
      obtain ⟨ua, rfl, hU⟩ := hu3
      have hN3 := hN2.same s3
      have hN4 := hN3.putPrinted (whatT (heldS { S with worths := S.worths ++ fr } x)) hzp
      obtain ⟨sx, esx⟩ := thV_two (heldS { S with worths := S.worths ++ fr } x)
      rw [esx] at hU
      refine ⟨ua, _, 1, _, rfl, rfl, hU, rfl, A.pa, _, _, rfl, rfl, hN3.hp, Nat.lt_trans hzp (by decide), ?_⟩
      exact k _ l' _ ((z02.trans (s3.fz z02.mks)).trans ((hN3.putZ (by simp [Ad.own]) (.inl ⟨_, rfl⟩)).mono (fun b hb => List.mem_append_left _ hb) hN3.mksO)) hN4 (.prt hW hf)
    | note x o ps =>
      obtain ⟨v1, v2, v3, rfl, t1, t2, t3⟩ := hrt.three
      cases t1.strI
      cases t2.strI
      obtain ⟨a3, xs3, rfl, hS3, ht3⟩ := t3.tupI
      have e3 := Tvs.strs ht3
      subst e3
      obtain ⟨hop, hpl⟩ := hR.ops x o ps rfl
      refine ifBF (show inV (V.str (Str.ofString "note")) [V.str (Str.ofString "ask"), V.str (Str.ofString "print")] = false by decide +kernel) ⟨_, rfl, rfl, _, rfl, ifDF (neS (a := "note") (b := "print") (by decide +kernel)) ⟨_, rfl, rfl, _, rfl, ifD rfl ?_⟩⟩
      refine lc_into ?_
      refine ⟨_, rfl, _, _, _, _, rfl, rfl, hrS, rfl, a3, rfl, ⟨_, hS3⟩, ?_⟩
      refine lc_overA (p := none) (as := ps) (zs := ps.map V.str) (Rel := fun H' c y => ThAt K H' y (heldS S c)) it_tup ?_ (fun _ _ _ _ p h => h.pt p) (fun _ h => nomatch h) ?_ (fun H' _ pt => pt.sq hS3) ?_ ?_
      · rw [List.length_map]
      · rw [List.length_map]
        exact Nat.lt_of_le_of_lt hpl (by decide)
      · intro j z y hz hy H3 kq pt3 R kR
        rw [List.getElem?_map, hy] at hz
        cases hz
        have hN3 := hN.same kq.same
        exact ⟨rfl, _, rfl, A.x, A.dx, _, rfl, hN3.hx, rfl, _, rfl, A, S, l, y, rfl, hN3, fun u H4 s4 hu4 => kR _ _ s4.kq s4.pt hu4⟩
      · intro D zs H3 kq pt3 nD hD all
        refine ⟨D, _, rfl, .inl ⟨SqL.of hD, fun q nq => ?_⟩⟩
        have sq := same_new (o := .tup zs) nq
        have sm := kq.same.trans sq
        have hN4 := hN.same sm
        have hrS4 := sm.pt.sq hrS
        have all' : All2 (ThAt K (upd H3 q (.tup zs))) zs (ps.map (heldS S)) := (All2.turn all).imp fun _ _ h => h.pt sq.pt
        refine ⟨_, rfl, A.x, A.dx, _, rfl, hN4.hx, rfl, _, rfl, _, _, _, _, rfl, rfl, hrS4, rfl, _, rfl, A, S, l, o, q, zs, ps.map (heldS S), rfl, hN4, .inl (.inl upd_same), all', by rw [List.length_map]; exact hpl, hop, ?_, hzm, fun H5 z5 hN5 => ?_⟩
        · intro u hu
          obtain ⟨y, _, rfl⟩ := List.mem_map.mp hu
          exact hN.wf.held
        have z05 := (sm.fz hN.mks).trans z5
        refine ⟨by show 2 ≤ sizeLine; decide, fun q6 nq6 => ?_⟩
        have s6 := same_new (o := .tup [.str (Str.ofString "note"), .int (S.made.length : Nat)]) nq6
        have hN6 := hN5.same s6
        have z06 := z05.trans (s6.fz z05.mks)
        obtain ⟨kvs, hkv, hks, hN7⟩ := hN6.putHead (v := .ref q6) (t := .note S.made.length) ⟨q6, rfl, .inl (.inl upd_same)⟩ (hR.nms x List.mem_cons_self) ⟨fun n e => by cases e; show S.made.length < (S.made ++ [(o, ps.map (heldS S))]).length; simp, fun v e => (by cases e)⟩ hns
        refine ⟨_, rfl, A.x, C, A.dx, _, _, rfl, hN6.hx, c.c, c.n_heads, rfl, _, rfl, _, _, _, _, rfl, rfl, (z06.pt hN.mks).sq hrS, rfl, A.ha, _, rfl, DPut.k (k := .inr x) hkv hks, ?_⟩
        exact k _ l _ (kp (z06.trans (hN6.putZ (by simp [Ad.own]) (.inr ⟨_, rfl⟩)))) hN7 .note
    | copy x y =>
      obtain ⟨v1, v2, rfl, t1, t2⟩ := hrt.two
      cases t1.strI
      cases t2.strI
      refine ifBF (show inV (V.str (Str.ofString "copy")) [V.str (Str.ofString "ask"), V.str (Str.ofString "print")] = false by decide +kernel) ⟨_, rfl, rfl, _, rfl, ifDF (neS (a := "copy") (b := "print") (by decide +kernel)) ⟨_, rfl, rfl, _, rfl, ifDF (neS (a := "copy") (b := "note") (by decide +kernel)) ⟨_, rfl, rfl, _, rfl, ifD rfl ?_⟩⟩⟩
      refine ⟨_, rfl, A.x, A.dx, _, rfl, hN.hx, rfl, _, rfl, _, _, _, _, rfl, rfl, hrS, rfl, A, S, l, y, rfl, hN, fun u H1 s1 hu1 => ?_⟩
      have hN1 := hN.same s1
      obtain ⟨kvs, hkv, hks, hN7⟩ := hN1.putHead hu1 (hR.nms x List.mem_cons_self) hN.wf.held hns
      refine ⟨_, rfl, A.x, C, A.dx, _, _, rfl, hN1.hx, c.c, c.n_heads, rfl, _, rfl, _, _, _, _, rfl, rfl, s1.pt.sq hrS, rfl, A.ha, _, rfl, DPut.k (k := .inr x) hkv hks, ?_⟩
      exact k _ l _ (kp ((s1.fz hN.mks).trans (hN1.putZ (by simp [Ad.own]) (.inr ⟨_, rfl⟩)))) hN7 .copy
    | give x i =>
      obtain ⟨v1, v2, rfl, t1, t2⟩ := hrt.two
      cases t1.strI
      cases t2.intI
      refine ifBF (show inV (V.str (Str.ofString "give")) [V.str (Str.ofString "ask"), V.str (Str.ofString "print")] = false by decide +kernel) ⟨_, rfl, rfl, _, rfl, ifDF (neS (a := "give") (b := "print") (by decide +kernel)) ⟨_, rfl, rfl, _, rfl, ifDF (neS (a := "give") (b := "note") (by decide +kernel)) ⟨_, rfl, rfl, _, rfl, ifDF (neS (a := "give") (b := "copy") (by decide +kernel)) ⟨_, rfl, rfl, _, rfl, ifD rfl ?_⟩⟩⟩⟩
      refine ⟨_, rfl, _, _, _, _, rfl, rfl, hrS, rfl, by show 2 ≤ sizeLine; decide, fun q nq => ?_⟩
      have s1 := same_new (o := .tup [.str (Str.ofString "worth"), .int i]) nq
      have hN1 := hN.same s1
      obtain ⟨kvs, hkv, hks, hN7⟩ := hN1.putHead (v := .ref q) (t := .worth (.int i)) ⟨q, rfl, .inl (.inl upd_same)⟩ (hR.nms x List.mem_cons_self) ⟨fun n e => (by cases e), fun v e => by cases e; exact fm.okI i⟩ hns
      refine ⟨_, rfl, A.x, C, A.dx, _, _, rfl, hN1.hx, c.c, c.n_heads, rfl, _, rfl, _, _, _, _, rfl, rfl, s1.pt.sq hrS, rfl, A.ha, _, rfl, DPut.k (k := .inr x) hkv hks, ?_⟩
      exact k _ l _ (kp ((s1.fz hN.mks).trans (hN1.putZ (by simp [Ad.own]) (.inr ⟨_, rfl⟩)))) hN7 .give
    | either b1 b2 =>
      refine ifBF (show inV (V.str (Str.ofString "either")) [V.str (Str.ofString "ask"), V.str (Str.ofString "print")] = false by decide +kernel) ⟨_, rfl, rfl, _, rfl, ifDF (neS (a := "either") (b := "print") (by decide +kernel)) ⟨_, rfl, rfl, _, rfl, ifDF (neS (a := "either") (b := "note") (by decide +kernel)) ⟨_, rfl, rfl, _, rfl, ifDF (neS (a := "either") (b := "copy") (by decide +kernel)) ⟨_, rfl, rfl, _, rfl, ifDF (neS (a := "either") (b := "give") (by decide +kernel)) ⟨_, rfl, rfl, _, rfl, ifDF (neS (a := "either") (b := "drop") (by decide +kernel)) ?_⟩⟩⟩⟩⟩
      exact k S l _ ((Same.refl _).fz hN.mksO) hN .either
    | again b1 =>
      refine ifBF (show inV (V.str (Str.ofString "again")) [V.str (Str.ofString "ask"), V.str (Str.ofString "print")] = false by decide +kernel) ⟨_, rfl, rfl, _, rfl, ifDF (neS (a := "again") (b := "print") (by decide +kernel)) ⟨_, rfl, rfl, _, rfl, ifDF (neS (a := "again") (b := "note") (by decide +kernel)) ⟨_, rfl, rfl, _, rfl, ifDF (neS (a := "again") (b := "copy") (by decide +kernel)) ⟨_, rfl, rfl, _, rfl, ifDF (neS (a := "again") (b := "give") (by decide +kernel)) ⟨_, rfl, rfl, _, rfl, ifDF (neS (a := "again") (b := "drop") (by decide +kernel)) ?_⟩⟩⟩⟩⟩
      exact k S l _ ((Same.refl _).fz hN.mksO) hN .again
end
end K24
set_option Elab.async false
set_option linter.all false
set_option maxRecDepth 100000
set_option maxHeartbeats 4000000
/-! A rule of my own: d.get(y), where y may be None. -/
namespace ZR
open PySem PySem.Spec PyProof.Rows L2
/-- what d.get(y) gives -/
def GetN (H : Hp) (a : Addr) (y v : V) : Prop := (∃ o, DGet H a y o ∧ v = o.getD .non) ∨ (y = .non ∧ v = .non ∧ ∃ kvs, Rd H a (.dK kvs))
def tDGetN (td ty : TE) : TE := fun σ H Q => td σ H fun x H1 => ∃ a, x = .ref a ∧ IsD H1 a ∧ ty σ H1 fun y H2 => ∃ v, GetN H2 a y v ∧ Q v H2
section
variable {X : Cx} {o e : Expr} {apos cpos : Pos} {td ty : TE}
theorem d_getNone {pins : List (Addr × Obj)} {σ : L2.St} {H : Hp} {s : Shared} {a : Addr} {kvs : List (Key × V)} {A : Around} {E : Value → Shared → Prop} {Q : Value → Shared → Prop} (I : Inv X pins σ H s) (g : Rd H a (.dK kvs)) (h : ∀ s', Inv X pins σ H s' → Q .none s') :
    wpAny (model X.prog X.w) A (call (.builtin "dict.get") [.ref a, .none]) Q E s := by
  obtain ⟨z, hd, vs, rel, dd⟩ := dk_rd I.hok g
  obtain ⟨f, hm, hf⟩ := none_map dd
  refine call_meetsIn PySem.F.slot_dict_get dd.typeIs PySem.F.entry_dict_get (PySem.F.args_dict_get_2 _ _) (meets_dict_get (noneKind X.prog X.w) a (show (noneKind X.prog X.w).is none .none = true from rfl) hd) ⟨_, hm, ?_⟩
  rw [hf]
  exact h _ (I.tok _)
theorem pe_dgetN (hu : X.A.units + 1 < cLine) (ho : PE X o td) (he : PE X e ty) (m : M1 X o "get" apos e cpos) : PE X (.Call (.Attribute o "get" apos) [e] [] cpos) (tDGetN td ty) := by
  refine ⟨fun pins s σ H Q I h => ?_⟩
  refine wpAny_Call_method m.base m.few m.line PySem.F.plainAttrs_dict PySem.F.slot_dict_get PySem.F.type_dict_get (thn (ho.run pins s σ H _ I h) fun u s1 ⟨x, H1, I1, rx, q0⟩ => ?_)
  obtain ⟨a, ex, d, q1⟩ := q0
  subst ex
  obtain rfl : u = Value.ref a := rx
  obtain ⟨t1, t2, _⟩ := isD_at I1 d
  refine ⟨t1, t2, ?_⟩
  rw [m.trees]
  refine Calls.callWith_builtin rfl (Calls.evalArgs_plain (Calls.spliced_cons (thn (he.run pins s1 σ H1 _ I1 q1) fun iv s2 ⟨y, H2, I2, ry, q2⟩ => Calls.spliced_nil ?_)))
  obtain ⟨v, g, q2⟩ := q2
  rcases g with ⟨ov, g, ev⟩ | ⟨ey, ev, kvs, g⟩
  · subst ev
    exact d_get1 hu I2 g ry fun w s3 I3 rw' => ⟨_, H2, I3, rw', q2⟩
  · subst ey ev
    obtain rfl : iv = Value.none := ry
    exact d_getNone I2 g fun s3 I3 => ⟨.non, H2, I3, rfl, q2⟩
end
end ZR
set_option Elab.async false
set_option linter.all false
set_option maxRecDepth 100000
set_option maxHeartbeats 4000000
/-! Holding.__init__, Notes.__init__, Notes.do. -/
namespace PM
open PySem PySem.Spec PyProof.Rows L2 ZX ZR
/-- a method's text whose closure has its class -/
abbrev nfOf (n q : Str) (s : Stmt) (cc c : Addr) : NdefX.NF := { name := n, qual := q, params := defArgs s, body := defBody s, scope := defScope s, cl := [(("__class__" : Str), cc)], c := c }
section
variable {x q C dx : Addr} {H H1 : Hp} {fs fs' : List (Str × V)} {o : HO}
/-- a new thing is made, and a field of x set to it -/
theorem ini_step (kp : Kp x H H1) (hx : H1 x = some (.ins C dx fs)) (nq : H1 q = none) : Kp x H (upd (upd H1 q o) x (.ins C dx fs')) ∧ upd (upd H1 q o) x (.ins C dx fs') x = some (.ins C dx fs') ∧ upd (upd H1 q o) x (.ins C dx fs') q = some o ∧ q ≠ x ∧ H q = none ∧ ∀ b u, b ≠ x → H1 b = some u → upd (upd H1 q o) x (.ins C dx fs') b = some u := by
  have ne : q ≠ x := fun e => by
    rw [e, hx] at nq
    cases nq
  have mv : ∀ b u, b ≠ x → H1 b = some u → upd (upd H1 q o) x (.ins C dx fs') b = some u := fun b u n e => by
    rw [upd_ne n, upd_ne (ne_of_none e nq)]
    exact e
  refine ⟨fun b u n e => mv b u n (kp b u n e), upd_same, by rw [upd_ne ne, upd_same], ne, ?_, mv⟩
  cases e : H q with
  | none => rfl
  | some u =>
    rw [kp q u ne e] at nq
    cases nq
end
/-- a lot of six new lists and dicts -/
structure New6 (H H' : Hp) (ha ma wa oa pa : Addr) : Prop where
  h1 : H' ha = some (.dK [])
  h2 : H' ma = some (.lst [])
  h3 : H' wa = some (.dK [])
  h4 : H' oa = some (.lst [])
  h5 : H' pa = some (.lst [])
  n1 : H ha = none
  n2 : H ma = none
  n3 : H wa = none
  n4 : H oa = none
  n5 : H pa = none
  nd : [ha, ma, wa, oa, pa].Nodup
def fs6 (fa ha ma wa oa pa : Addr) : List (Str × V) := [("functions", .ref fa), ("heads", .ref ha), ("made", .ref ma), ("worths", .ref wa), ("order", .ref oa), ("printed", .ref pa)]
def fs7 (fa ha ma wa oa pa ta : Addr) : List (Str × V) := [("functions", .ref fa), ("heads", .ref ha), ("made", .ref ma), ("worths", .ref wa), ("order", .ref oa), ("printed", .ref pa), ("trail", .ref ta)]
end PM
namespace K24
open PySem PySem.Spec PyProof.Rows L2 ZX PM ZR
abbrev sHInit : Stmt := inClass (top 50) 0
section
variable {P : Program} {w : World} {K : PySem.W.Frag} {mg : Str → Option Value} {base : Heap} {C : Addr} {F : List (Str × Addr)} {ns : List Str}
def spHInit (C : Addr) : Sp := fun vs H Q _ => ∃ (x dx fa : Addr), vs = [.ref x, .ref fa] ∧ H x = some (.ins C dx []) ∧ ∀ ha ma wa oa pa H', Kp x H H' → H' x = some (.ins C dx (fs6 fa ha ma wa oa pa)) → New6 H H' ha ma wa oa pa → Q .non H'
theorem scHInit : FnScope ["self", "functions"] ["self", "functions"] (defScope sHInit) := ⟨rfl, rfl, rfl, by decide +kernel, rfl, by decide +kernel, by decide +kernel⟩
theorem ok_hinit {f : Addr} {fd : FuncData} (FD : FunD K "__init__" "Holding.__init__" (defArgs sHInit) (defBody sHInit) (defScope sHInit) [] [] f fd) (c : NtC K C) : FnOk P w K mg base CX0 1 f fd ["self", "functions"] (spHInit C) := by
  refine FD.ok scHInit (fun vs H Q E h => ?_) (fun cdv A0 outer s H vs Q E hr h => ?_)
  · obtain ⟨x, dx, fa, rfl, _⟩ := h
    rfl
  · obtain ⟨x, dx, fa, rfl, hx, k⟩ := h
    refine ⟨_, PSs.nox (pss_cons (ps_fld (pv 0) (pv 1) rfl)
    (pss_cons (ps_fld (pv 0) pe_dnewK rfl)
    (pss_cons (ps_fld (pv 0) (pe_lst pa_nil) rfl)
    (pss_cons (ps_fld (pv 0) pe_dnewK rfl)
    (pss_cons (ps_fld (pv 0) (pe_lst pa_nil) rfl)
    (pss_one (ps_fld (pv 0) (pe_lst pa_nil) rfl))))))), ?_⟩
    refine ⟨_, rfl, _, rfl, x, C, dx, _, rfl, hx, c.c, c.n_functions, (by show 0 < 1000; decide), ?_⟩
    have k1 : Kp x H (upd H x (.ins C dx [("functions", .ref fa)])) := fun b u n e => by
      rw [upd_ne n]
      exact e
    have x1 : upd H x (.ins C dx [("functions", V.ref fa)]) x = some (.ins C dx [("functions", .ref fa)]) := upd_same
    refine fun ha n1 => ?_
    obtain ⟨k2, x2, a2, e2, z2, m2⟩ := ini_step (o := .dK []) (fs' := [("functions", .ref fa), ("heads", .ref ha)]) k1 x1 n1
    refine ⟨_, rfl, x, C, dx, _, rfl, (upd_ne e2.symm).trans x1, c.c, c.n_heads, (by show 1 < 1000; decide), ?_⟩
    refine ⟨by decide, fun ma n2 => ?_⟩
    obtain ⟨k3, x3, a3, e3, z3, m3⟩ := ini_step (o := .lst []) (fs' := [("functions", .ref fa), ("heads", .ref ha), ("made", .ref ma)]) k2 x2 n2
    refine ⟨_, rfl, x, C, dx, _, rfl, (upd_ne e3.symm).trans x2, c.c, c.n_made, (by show 2 < 1000; decide), ?_⟩
    refine fun wa n3 => ?_
    obtain ⟨k4, x4, a4, e4, z4, m4⟩ := ini_step (o := .dK []) (fs' := [("functions", .ref fa), ("heads", .ref ha), ("made", .ref ma), ("worths", .ref wa)]) k3 x3 n3
    refine ⟨_, rfl, x, C, dx, _, rfl, (upd_ne e4.symm).trans x3, c.c, c.n_worths, (by show 3 < 1000; decide), ?_⟩
    refine ⟨by decide, fun oa n4 => ?_⟩
    obtain ⟨k5, x5, a5, e5, z5, m5⟩ := ini_step (o := .lst []) (fs' := [("functions", .ref fa), ("heads", .ref ha), ("made", .ref ma), ("worths", .ref wa), ("order", .ref oa)]) k4 x4 n4
    refine ⟨_, rfl, x, C, dx, _, rfl, (upd_ne e5.symm).trans x4, c.c, c.n_order, (by show 4 < 1000; decide), ?_⟩
    refine ⟨by decide, fun pa n5 => ?_⟩
    obtain ⟨k6, x6, a6, e6, z6, m6⟩ := ini_step (o := .lst []) (fs' := [("functions", .ref fa), ("heads", .ref ha), ("made", .ref ma), ("worths", .ref wa), ("order", .ref oa), ("printed", .ref pa)]) k5 x5 n5
    refine ⟨_, rfl, x, C, dx, _, rfl, (upd_ne e6.symm).trans x5, c.c, c.n_printed, (by show 5 < 1000; decide), ?_⟩
    refine k ha ma wa oa pa _ k6 x6 ⟨m6 _ _ e2 (m5 _ _ e2 (m4 _ _ e2 (m3 _ _ e2 a2))), m6 _ _ e3 (m5 _ _ e3 (m4 _ _ e3 a3)), m6 _ _ e4 (m5 _ _ e4 a4), m6 _ _ e5 a5, a6, z2, z3, z4, z5, z6, ?_⟩
    have d12 := ne_of_none a2 n2
    have d13 := ne_of_none (m3 _ _ e2 a2) n3
    have d14 := ne_of_none (m4 _ _ e2 (m3 _ _ e2 a2)) n4
    have d15 := ne_of_none (m5 _ _ e2 (m4 _ _ e2 (m3 _ _ e2 a2))) n5
    have d23 := ne_of_none a3 n3
    have d24 := ne_of_none (m4 _ _ e3 a3) n4
    have d25 := ne_of_none (m5 _ _ e3 (m4 _ _ e3 a3)) n5
    have d34 := ne_of_none a4 n4
    have d35 := ne_of_none (m5 _ _ e4 a4) n5
    have d45 := ne_of_none a5 n5
    simp only [List.nodup_cons, List.mem_cons, List.not_mem_nil, or_false, not_or]
    exact ⟨⟨d12, d13, d14, d15⟩, ⟨d23, d24, d25⟩, ⟨d34, d35⟩, d45, id, List.nodup_nil⟩
end
end K24
set_option Elab.async false
set_option linter.all false
set_option maxRecDepth 100000
set_option maxHeartbeats 4000000
/-! Notes.__init__, Notes.do. -/
namespace PM
open PySem PySem.Spec PyProof.Rows L2 ZX ZR
/-- nothing is put off -/
def NS0 : NS := ⟨fun _ => none, [], [], [], []⟩
def nameW : Rw → Option Str
  | .note x _ _ => some x
  | .copy x _ => some x
  | .give x _ => some x
  | _ => none
def markS (S : NS) (r : Rw) : Mark := ⟨nameW r, (nameW r).bind S.heads, S.made.length, S.worths.length, S.printed.length⟩
section
variable {P : Program} {w : World} {K : PySem.W.Frag} {mg : Str → Option Value} {base : Heap} {fm : Fam P w K mg base} {C : Addr} {F : List (Str × Addr)} {ns : List Str} {H H' : Hp} {A : Ad} {S S' : NS} {l l' : fm.L}
theorem wf0 : WfS fm F ns NS0 := ⟨fun m h => (nomatch h), fun k m h => (by cases h), fun x n h => (by cases h), fun x t h => (by cases h), List.nodup_nil, fun k h => (nomatch h), fun x v h => (by cases h), fun m h => (nomatch h), fun p h => (nomatch h), Nat.zero_le _, Nat.zero_le _, Nat.zero_le _⟩
/-- new notes -/
theorem NtAt.init {x dx fa ha ma wa oa pa ta : Addr} (hx : H' x = some (.ins C dx (fs7 fa ha ma wa oa pa ta))) (n6 : New6 H H' ha ma wa oa pa) (ht : H' ta = some (.lst [])) (nt : H ta = none) (dt : ta ∉ [ha, ma, wa, oa, pa])
    (hf0 : ∃ o, H fa = some o) (hf : H' fa = some (.dK (F.map fun p => (.inr p.1, .ref p.2)))) (fns : ∀ p ∈ F, fm.Fn p.1 p.2 H') (mo0 : Mks fm.out H) (mo : Mks fm.out H') (nf : fa ∉ fm.out) (on : fm.out.Nodup) (at_ : fm.At l H') : NtAt fm C F ns H' ⟨x, dx, fa, ha, ma, wa, oa, pa, ta⟩ NS0 l := by
  have ho : ∀ {b : Addr}, H b = none → b ≠ fa ∧ b ∉ fm.out := fun {b} n => by
    refine ⟨fun z => ?_, fun m => ?_⟩
    · obtain ⟨o, hf0⟩ := hf0
      rw [z, hf0] at n
      cases n
    · rcases mo0 b m with ⟨_, e⟩ | ⟨_, e⟩ <;> rw [n] at e <;> cases e
  refine ⟨hx, hf, fns, ⟨[], [], n6.h1, rfl, List.nodup_nil, fun _ h => (nomatch h), fun y => (trivial : HdR K H' none none)⟩, ⟨[], n6.h2, .nil⟩, n6.h3, n6.h4, n6.h5, ⟨[], ht, .nil⟩, ?_, mo, at_, wf0⟩
  · have nd := n6.nd
    have a1 := ho n6.n1
    have a2 := ho n6.n2
    have a3 := ho n6.n3
    have a4 := ho n6.n4
    have a5 := ho n6.n5
    have a6 := ho nt
    simp only [List.nodup_cons, List.mem_cons, List.not_mem_nil, or_false, not_or] at nd dt
    obtain ⟨⟨d12, d13, d14, d15⟩, ⟨d23, d24, d25⟩, ⟨d34, d35⟩, d45, _⟩ := nd
    obtain ⟨t1, t2, t3, t4, t5⟩ := dt
    show (fa :: ha :: ma :: wa :: oa :: pa :: ta :: fm.out).Nodup
    simp only [List.nodup_cons, List.mem_cons, not_or]
    exact ⟨⟨a1.1.symm, a2.1.symm, a3.1.symm, a4.1.symm, a5.1.symm, a6.1.symm, nf⟩, ⟨d12, d13, d14, d15, Ne.symm t1, a1.2⟩, ⟨d23, d24, d25, Ne.symm t2, a2.2⟩, ⟨d34, d35, Ne.symm t3, a3.2⟩, ⟨d45, Ne.symm t4, a4.2⟩, ⟨Ne.symm t5, a5.2⟩, a6.2, on⟩
theorem DoS.trail {r : Rw} (h : DoS fm S l r S' l') : S'.trail = S.trail := by cases h <;> rfl
theorem WfS.mark (wf : WfS fm F ns S) (m : Mark) (hz : S.trail.length < 50000) : WfS fm F ns { S with trail := S.trail ++ [m] } := ⟨wf.ops, wf.low, wf.hlow, wf.hin, wf.wn, wf.wlow, wf.okh, wf.okm, wf.okw, wf.szm, wf.szp, by
    show (S.trail ++ [m]).length ≤ 50000
    rw [List.length_append]
    exact hz⟩
theorem NtAt.putTrail (h : NtAt fm C F ns H A S l) {u : V} {m : Mark} (hu : MkAt K H u m) (hz : S.trail.length < 50000) : ∃ us, H A.ta = some (.lst us) ∧ us.length < sizeLine ∧ NtAt fm C F ns (upd H A.ta (.lst (us ++ [u]))) A { S with trail := S.trail ++ [m] } l := by
  obtain ⟨ts, t1, t2⟩ := h.ht
  have z := h.putZ (b := A.ta) (o := .lst (ts ++ [u])) (by simp [Ad.own]) (.inl ⟨_, rfl⟩)
  have p := z.pt h.mks
  obtain ⟨d1, d2, d3, d4, d5, d6, d7, d8, d9, e1, e2, e3, e4, e5, e6⟩ := h.dis
  exact ⟨ts, t1, by rw [t2.len]; exact Nat.lt_trans hz (by decide), h.chg z (h.heads p (upd_ne d5) rfl) (h.mades p (upd_ne d9) rfl) ((upd_ne e3).trans h.hw) ((upd_ne e5).trans h.ho) ((upd_ne e6).trans h.hp) ⟨_, upd_same, All2.app (t2.imp fun _ _ q => q.pt p) (.cons (hu.pt p) .nil)⟩ (h.wf.mark m hz)⟩
theorem NtAt.getHead (h : NtAt fm C F ns H A S l) (n : Option Str) : ∃ v, GetN H A.ha (nmV n) v ∧ HdV K H v (n.bind S.heads) := by
  obtain ⟨kvs, ks, h1, h2, h3, h4, h5⟩ := h.hh
  cases n with
  | none => exact ⟨.non, .inr ⟨rfl, rfl, kvs, .inl h1⟩, rfl⟩
  | some x =>
    refine ⟨_, .inl ⟨_, DGet.k (k := .inr x) h1, rfl⟩, ?_⟩
    have hx := h5 x
    show HdV K H ((valV kvs (.inr x)).getD .non) (S.heads x)
    cases e1 : valV kvs (.inr x) with
    | none =>
      rw [e1] at hx
      cases e2 : S.heads x with
      | none => rfl
      | some t => rw [e2] at hx; exact hx.elim
    | some v =>
      rw [e1] at hx
      cases e2 : S.heads x with
      | none => rw [e2] at hx; exact hx.elim
      | some t => rw [e2] at hx; exact hx
end
end PM
namespace K24
open PySem PySem.Spec PyProof.Rows L2 ZX PM ZR NdefX
abbrev sNInit : Stmt := inClass (top 51) 0
abbrev sNDo : Stmt := inClass (top 51) 1
section
variable {P : Program} {w : World} {K : PySem.W.Frag} {mg : Str → Option Value} {base : Heap} {C : Addr} {F : List (Str × Addr)} {ns : List Str}
def spNInit (C : Addr) : Sp := fun vs H Q _ => ∃ (x dx fa : Addr), vs = [.ref x, .ref fa] ∧ H x = some (.ins C dx []) ∧ ∀ ha ma wa oa pa ta H', Kp x H H' → H' x = some (.ins C dx (fs7 fa ha ma wa oa pa ta)) → New6 H H' ha ma wa oa pa → H' ta = some (.lst []) → H ta = none → ta ∉ [ha, ma, wa, oa, pa] → Q .non H'
theorem scNInit : NScope ["self", "functions", "__class__"] ["self", "functions"] ["__class__"] (defScope sNInit) := nscope_by (by decide +kernel)
theorem ok_ninit {f f2 cc ca : Addr} {fd fd2 : FuncData} (FC : FunC K (nfOf "__init__" "Notes.__init__" sNInit cc ca) C f fd) (c : NtC K C) (S : SupC P K f ca C C f2 "__init__") (hms : mg "super" = none) (G : FnOk P w K mg base CX0 1 f2 fd2 ["self", "functions"] (spHInit C)) (hb : Binds K fd2 ["self", "functions"] []) : FnOk P w K mg base CX0 2 f fd ["self", "functions"] (spNInit C) := by
  refine FC.ok scNInit (fun vs H Q E h => ?_) (fun A0 outer s H vs Q E hr h => ?_)
  · obtain ⟨x, dx, fa, rfl, _⟩ := h
    rfl
  · obtain ⟨x, dx, fa, rfl, hx, k⟩ := h
    refine ⟨_, psc_super (j := 2) (k := 1) S rfl rfl rfl (show (defScope sNInit).names.lookup ("self" : Str) = some .local by decide +kernel) rfl (show (defScope sNInit).names.lookup ("__class__" : Str) = some .free by decide +kernel) (show (defScope sNInit).names.lookup ("super" : Str) = some .globalImplicit by decide +kernel) hms G hr hb pass0 (pa_cons (pv 1) pa_nil) (psc_of (pss_one (ps_fld (pv 0) (pe_lst pa_nil) rfl))), ?_⟩
    refine ⟨x, dx, _, rfl, rfl, hx, _, rfl, x, dx, fa, rfl, hx, fun ha ma wa oa pa H1 kp hx1 n6 => ?_⟩
    refine ⟨by decide, fun ta nt => ?_⟩
    obtain ⟨k2, x2, a2, e2, z2, m2⟩ := ini_step (o := .lst []) (fs' := fs7 fa ha ma wa oa pa ta) kp hx1 nt
    refine ⟨_, rfl, x, C, dx, _, rfl, (upd_ne e2.symm).trans hx1, c.c, c.n_trail, (by show 6 < 1000; decide), ?_⟩
    have nx : ∀ {b : Addr}, H b = none → b ≠ x := fun n z => by
      rw [z, hx] at n
      cases n
    refine k ha ma wa oa pa ta _ k2 x2 ⟨m2 _ _ (nx n6.n1) n6.h1, m2 _ _ (nx n6.n2) n6.h2, m2 _ _ (nx n6.n3) n6.h3, m2 _ _ (nx n6.n4) n6.h4, m2 _ _ (nx n6.n5) n6.h5, n6.n1, n6.n2, n6.n3, n6.n4, n6.n5, n6.nd⟩ a2 z2 ?_
    simp only [List.mem_cons, List.not_mem_nil, or_false, not_or]
    exact ⟨(ne_of_none n6.h1 nt).symm, (ne_of_none n6.h2 nt).symm, (ne_of_none n6.h3 nt).symm, (ne_of_none n6.h4 nt).symm, (ne_of_none n6.h5 nt).symm⟩
def spNDo (fm : Fam P w K mg base) (C : Addr) (F : List (Str × Addr)) (ns : List Str) : Sp := fun vs H Q _ => ∃ (A : Ad) (S : NS) (l : fm.L) (v : V) (r : Rw), vs = [.ref A.x, v] ∧ NtAt fm C F ns H A S l ∧ RV K H v r ∧ RwOk F ns r ∧
  S.made.length < 50000 ∧ S.printed.length < 50000 ∧ S.trail.length < 50000 ∧ ∀ S' l' H', Fz (A.own ++ fm.out) H H' → NtAt fm C F ns H' A { S' with trail := S.trail ++ [markS S r] } l' → DoS fm S l r S' l' → Q .non H'
theorem scNDo : NScope ["self", "row", "__class__", "name", "mark"] ["self", "row"] ["__class__"] (defScope sNDo) := nscope_by (by decide +kernel)
theorem ok_ndo {fm : Fam P w K mg base} {f f2 cc ca : Addr} {fd fd2 : FuncData} (FC : FunC K (nfOf "do" "Notes.do" sNDo cc ca) C f fd) (T : Bi mg) (c : NtC K C) (hW : TupC K mg "WRITING" [.str "note", .str "copy", .str "give", .str "drop"]) (S0 : SupC P K f ca C C f2 "do") (hms : mg "super" = none) (G : FnOk P w K mg base CX0 (fm.lev + 5) f2 fd2 ["self", "row"] (spHDo fm C F ns)) (hb : Binds K fd2 ["self", "row"] []) : FnOk P w K mg base CX0 (fm.lev + 6) f fd ["self", "row"] (spNDo fm C F ns) := by
  refine FC.ok scNDo (fun vs H Q E h => ?_) (fun A0 outer s H vs Q E hr h => ?_)
  · obtain ⟨A, S, l, v, r, rfl, _⟩ := h
    rfl
  · obtain ⟨A, S, l, v, r, rfl, hN, tr, hR, hzm, hzp, hzt, k⟩ := h
    obtain ⟨wr, m_WR, hWR⟩ := hW
    have hu := hu_of hr
    refine ⟨_, psc_cons (ps_set (i := 3) scNDo.nd rfl (Or.inl rfl) (pe_ifExp (pt_cmpR op_in_seq (pe_ix ix_tup (pv 1) pe_int (fun _ _ => rfl)) (pe_glob (v := .ref _) rfl m_WR rfl) (by with_unfolding_all rfl)) (pe_ix ix_tup (pv 1) pe_int (fun _ _ => rfl)) pe_non))
    (psc_cons (ps_set (i := 4) scNDo.nd rfl (Or.inl rfl) (pe_tup (pa_cons (pv 3) (pa_cons (pe_dgetN hu (pe_fld (pv 0) rfl) (pv 3) ⟨rfl, rfl, rfl, rfl⟩) (pa_cons (pe_callB call_len_seq (by rfl) T.b_len (by decide +kernel) (pa_cons (pe_fld (pv 0) rfl) pa_nil)) (pa_cons (pe_callB call_len_seq (by rfl) T.b_len (by decide +kernel) (pa_cons (pe_fld (pv 0) rfl) pa_nil)) (pa_cons (pe_callB call_len_seq (by rfl) T.b_len (by decide +kernel) (pa_cons (pe_fld (pv 0) rfl) pa_nil)) pa_nil)))))))
    (psc_super (j := 2) (k := fm.lev + 5) S0 rfl rfl rfl (show (defScope sNDo).names.lookup ("self" : Str) = some .local by decide +kernel) rfl (show (defScope sNDo).names.lookup ("__class__" : Str) = some .free by decide +kernel) (show (defScope sNDo).names.lookup ("super" : Str) = some .globalImplicit by decide +kernel) hms G hr hb pass0 (pa_cons (pv 1) pa_nil)
    (psc_of (pss_one (ps_expr (pe_bm PySem.F.plainAttrs_list PySem.F.slot_list_append PySem.F.type_list_append mt_append (pe_fld (pv 0) rfl) (pa_cons (pv 4) pa_nil))))))), ?_⟩
    obtain ⟨ra, tl, rfl, hrS, hrt⟩ := tr.rowI
    refine ⟨_, rfl, _, _, _, _, rfl, rfl, hrS, at0, _, _, rfl, .inr (hWR _), rfl, rfl, _, rfl, ?_⟩
    show if inV (V.str (wordR r)) [V.str "note", V.str "copy", V.str "give", V.str "drop"] = true then _ else _
    have htl : ∀ x, nameW r = some x → ∃ tl', tl = .str x :: tl' := fun x e => by
      cases r with
      | note y o ps =>
        cases e
        obtain ⟨v1, v2, v3, rfl, t1, _⟩ := hrt.three
        cases t1.strI
        exact ⟨_, rfl⟩
      | copy y z =>
        cases e
        obtain ⟨v1, v2, rfl, t1, _⟩ := hrt.two
        cases t1.strI
        exact ⟨_, rfl⟩
      | give y z =>
        cases e
        obtain ⟨v1, v2, rfl, t1, _⟩ := hrt.two
        cases t1.strI
        exact ⟨_, rfl⟩
      | _ => cases e
    have pick : ∀ {te : TE} {σ : L2.St} {D : VK}, (∀ x, nameW r = some x → D (.str x) H → te σ H D) → D (nmV (nameW r)) H → if inV (V.str (wordR r)) [V.str "note", V.str "copy", V.str "give", V.str "drop"] = true then te σ H D else D .non H := fun {te σ D} h1 h2 => by
      cases r with
      | note y o ps => exact ifB (show inV (V.str (Str.ofString "note")) [V.str (Str.ofString "note"), V.str (Str.ofString "copy"), V.str (Str.ofString "give"), V.str (Str.ofString "drop")] = true by decide +kernel) (h1 y rfl h2)
      | copy y z => exact ifB (show inV (V.str (Str.ofString "copy")) [V.str (Str.ofString "note"), V.str (Str.ofString "copy"), V.str (Str.ofString "give"), V.str (Str.ofString "drop")] = true by decide +kernel) (h1 y rfl h2)
      | give y z => exact ifB (show inV (V.str (Str.ofString "give")) [V.str (Str.ofString "note"), V.str (Str.ofString "copy"), V.str (Str.ofString "give"), V.str (Str.ofString "drop")] = true by decide +kernel) (h1 y rfl h2)
      | ask y => exact ifBF (show inV (V.str (Str.ofString "ask")) [V.str (Str.ofString "note"), V.str (Str.ofString "copy"), V.str (Str.ofString "give"), V.str (Str.ofString "drop")] = false by decide +kernel) h2
      | prt y => exact ifBF (show inV (V.str (Str.ofString "print")) [V.str (Str.ofString "note"), V.str (Str.ofString "copy"), V.str (Str.ofString "give"), V.str (Str.ofString "drop")] = false by decide +kernel) h2
      | either a b => exact ifBF (show inV (V.str (Str.ofString "either")) [V.str (Str.ofString "note"), V.str (Str.ofString "copy"), V.str (Str.ofString "give"), V.str (Str.ofString "drop")] = false by decide +kernel) h2
      | again a => exact ifBF (show inV (V.str (Str.ofString "again")) [V.str (Str.ofString "note"), V.str (Str.ofString "copy"), V.str (Str.ofString "give"), V.str (Str.ofString "drop")] = false by decide +kernel) h2
    refine pick (fun x e d => ?_) ?_
    · obtain ⟨tl', rfl⟩ := htl x e
      exact ⟨_, rfl, _, _, _, _, rfl, rfl, hrS, atI_nat (j := 1) rfl, d⟩
    obtain ⟨us, g1, g2⟩ := hN.hm
    obtain ⟨hv, hget, hhv⟩ := hN.getHead (nameW r)
    refine ⟨_, rfl, _, rfl, A.x, C, A.dx, _, _, rfl, hN.hx, c.c, c.n_heads, rfl, A.ha, rfl, ?_, _, rfl, hv, hget, ?_⟩
    · obtain ⟨kvs, ks, h1, _⟩ := hN.hh
      exact .inl ⟨_, .inl h1⟩
    refine ⟨_, rfl, A.x, C, A.dx, _, _, rfl, hN.hx, c.c, c.n_made, rfl, A.ma, _, rfl, .inl (SqL.of g1), _, rfl, A.x, C, A.dx, _, _, rfl, hN.hx, c.c, c.n_order, rfl, A.oa, _, rfl, .inl (SqL.of hN.ho), _, rfl, A.x, C, A.dx, _, _, rfl, hN.hx, c.c, c.n_printed, rfl, A.pa, _, rfl, .inl (SqL.of hN.hp), by show 5 ≤ sizeLine; decide, fun q nq => ?_⟩
    have s1 := same_new (o := .tup [nmV (nameW r), hv, .int (us.length : Nat), .int ((S.worths.map fun p => V.int (p.1 : Nat)).length : Nat), .int (S.printed.length : Nat)]) nq
    have hN1 := hN.same s1
    refine ⟨A.x, A.dx, _, rfl, rfl, hN1.hx, _, rfl, A, S, l, _, r, rfl, hN1, tr.pt s1.pt, hR, hzm, hzp, fun S' l' H2 z2 hN2 hD => ?_⟩
    have p2 := z2.pt hN1.mksO
    have hmk : MkAt K H2 (.ref q) (markS S r) := by
      refine ⟨q, hv, rfl, p2.sq (.inl (.inl ?_)), (hhv.pt s1.pt).pt p2⟩
      rw [upd_same]
      show some (HO.tup [_, _, .int (us.length : Nat), .int (_ : Nat), _]) = _
      rw [g2.len, List.length_map]
      rfl
    obtain ⟨ts, t1, tz, hN3⟩ := hN2.putTrail hmk (by rw [hD.trail]; exact hzt)
    refine ⟨_, rfl, A.x, C, A.dx, _, _, rfl, hN2.hx, c.c, c.n_trail, rfl, .inl ⟨rfl, _, SqL.of t1⟩, _, rfl, A.ta, ts, _, rfl, rfl, t1, tz, ?_⟩
    rw [hD.trail] at hN3
    exact k S' l' _ (((s1.fz hN.mksO).trans z2).trans ((hN2.putZ (by simp [Ad.own]) (.inl ⟨_, rfl⟩)).mono (fun b hb => List.mem_append_left _ hb) hN2.mksO)) hN3 hD
end
end K24
set_option Elab.async false
set_option linter.all false
set_option maxRecDepth 100000
set_option maxHeartbeats 4000000
/-! A rule of my own: xs.extend(t), t a tuple. -/
namespace ZR
open PySem PySem.Spec PyProof.Rows L2
theorem ext_tup (l : Addr) (as : Array Value) (k : Nat) (t : Addr) (bs : Array Value) (j : Nat) (od : Option Addr) (os : Array (Option Value)) (ok : (!as.isEmpty && Builtin.List.listTooLong (as.size + bs.size)) = false) (z1 : as.size ≤ sizeLine) (z2 : as.size + bs.size ≤ sizeLine + 1) :
    Meets (Builtin.«list.extend» ⟨[.ref l, .ref t], []⟩) fun _ R s => (s.heap.get? l = some { cls := .type "list", data := .seq as k }) ∧ (s.heap.get? t = some ⟨.type "tuple", od, .seq bs j, os⟩) ∧ R (.ok (.ret Value.none)) { s with heap := s.heap.update l (Obj.mapSeq (· ++ bs)) } :=
  .of_wp fun prog w A R s h => by
    obtain ⟨hh, g, d, tk, o2⟩ := s
    obtain ⟨h1, h2, h3⟩ := h
    have e1 := AutoSeq1.idx_int
    have e2 := AutoSeq1.sub_tuple_tuple
    have e3 := AutoSeq1.sub_list_list
    have e4 := AutoSeq1.sub_tuple_list
    have e5 := AutoSeq1.sub_list_tuple
    have ok' : ¬ (!as.isEmpty && Builtin.List.listTooLong (as.size + bs.size)) = true := by rw [ok]; exact Bool.false_ne_true
    have z3 : (as ++ bs).size ≤ sizeLine + 1 := by
      rw [Array.size_append]
      exact z2
    wp_walk using (wpAny_updateSeq h1 rfl (hz := z1) (_hz' := z3)), wpAny_loadPart' h1, wpAny_loadPart' h2
    exact ⟨_, rfl, h3⟩
def rExtT (K : PySem.W.Frag) : V → List V → Hp → VK → Prop := fun x vs H Q => ∃ (l b : Addr) (xs zs : List V), x = .ref l ∧ vs = [.ref b] ∧ H l = some (.lst xs) ∧ SqT K H b zs ∧ xs.length + zs.length ≤ sizeLine ∧ Q .non (upd H l (.lst (xs ++ zs)))
theorem mt_extT {X : Cx} : MtR X "list.extend" (rExtT X.K) := by
  intro pins s σ H x vs v us Q I rx rv h
  obtain ⟨l, b, xs, zs, ex, ev, hH, hB, hz, q⟩ := h
  subst ex
  subst ev
  cases rx
  obtain ⟨u, eu, ru⟩ := rv.one
  subst eu
  cases ru
  obtain ⟨z, its, n, r, hl, e⟩ := I.lstM hH
  obtain ⟨its2, r2, ⟨⟨oc, od, odt, osl⟩, ho, hc, n2, hd⟩, _⟩ := I.tuple hB
  dsimp only at hc hd
  subst hc
  subst hd
  have l1 := r.length
  have l2 := r2.length
  have hsz : its.toArray.size + its2.toArray.size ≤ sizeLine := by
    rw [List.size_toArray, List.size_toArray]
    omega
  refine call_meets PySem.F.slot_list_extend ⟨_, e, rfl⟩ PySem.F.entry_list_extend (PySem.F.args_list_extend_2 _ _) (ext_tup l its.toArray n b its2.toArray n2 od osl (by rw [notLongL hsz, Bool.and_false]) (by omega) (by omega)) ⟨e, ho, ?_⟩
  refine ⟨.non, _, I.lset (its' := its ++ its2) (t' := s.toks) hH e (by simp) (r.append r2) ?_, rfl, q⟩
  rw [List.length_append]
  omega
end ZR
set_option Elab.async false
set_option linter.all false
set_option maxRecDepth 100000
set_option maxHeartbeats 4000000
/-! Holding._met, waiting, worked, said. -/
namespace PM
open PySem PySem.Spec PyProof.Rows L2 ZX ZR
/-- what is met, from a pile of things (its top first), those met already -/
inductive Me (S : NS) : List Th → List Nat → List Nat → Prop
  | done {ms : List Nat} : Me S [] ms ms
  | skip {t : Th} {st : List Th} {ms r : List Nat} (hn : ∀ n, nowS S t = .note n → n ∈ ms) (h : Me S st ms r) : Me S (t :: st) ms r
  | meet {t : Th} {st : List Th} {ms r : List Nat} {n : Nat} {m : Str × List Th} (hn : nowS S t = .note n) (hm : n ∉ ms) (hk : S.made[n]? = some m) (h : Me S (m.2 ++ st) (ms ++ [n]) r) : Me S (t :: st) ms r
/-- all that is met -/
def MetS (S : NS) (ms : List Nat) : Prop := ∃ (ys : List Str) (ts : List Th), sortedS ys = true ∧ ys.Nodup ∧ (∀ x, x ∈ ys ↔ S.heads x ≠ none) ∧ All2 (fun y t => S.heads y = some t) ys ts ∧ Me S ts [] ms
def mtKV (ms : List Nat) : List (Key × V) := ms.zipIdx.map fun p => (.inl (p.1 : Int), .int (p.2 : Nat))
theorem mt_keys (ms : List Nat) : (mtKV ms).map (·.1) = ms.map fun (n : Nat) => (Sum.inl (n : Int) : Key) := by
  unfold mtKV
  rw [List.map_map]
  have : ∀ (k : Nat) (l : List Nat), (l.zipIdx k).map ((fun x : Key × V => x.1) ∘ fun p : Nat × Nat => ((Sum.inl (p.1 : Int) : Key), V.int (p.2 : Nat))) = l.map fun (n : Nat) => (Sum.inl (n : Int) : Key) := fun k l => by
    induction l generalizing k with
    | nil => rfl
    | cons a l ih =>
      rw [List.zipIdx_cons, List.map_cons, List.map_cons, ih]
      rfl
  exact this 0 ms
theorem mt_len (ms : List Nat) : (mtKV ms).length = ms.length := by
  have := congrArg List.length (mt_keys ms)
  rwa [List.length_map, List.length_map] at this
theorem mt_none {n : Nat} {ms : List Nat} (h : n ∉ ms) : valV (mtKV ms) (.inl (n : Int)) = none := by
  cases e : valV (mtKV ms) (.inl (n : Int)) with
  | none => rfl
  | some v =>
    have := valV_in e
    rw [mt_keys] at this
    obtain ⟨m, hm, e2⟩ := List.mem_map.mp this
    exact absurd (by have : m = n := by injection e2 with e3; omega
                     rw [← this]; exact hm) h
theorem mt_some {n : Nat} {ms : List Nat} (h : n ∈ ms) : ∃ v, valV (mtKV ms) (.inl (n : Int)) = some v := by
  cases e : valV (mtKV ms) (.inl (n : Int)) with
  | some v => exact ⟨v, rfl⟩
  | none =>
    have := valV_not e
    rw [mt_keys] at this
    exact absurd (List.mem_map_of_mem h) this
theorem mt_snoc {n : Nat} {ms : List Nat} (h : n ∉ ms) : putK (mtKV ms) (.inl (n : Int)) (.int (ms.length : Nat)) = mtKV (ms ++ [n]) := by
  rw [putK_new _ (mt_none h)]
  unfold mtKV
  rw [List.zipIdx_append, List.map_append]
  simp
theorem same_putN {H H1 : Hp} {a : Addr} {o : HO} (s : Same H H1) (n : H a = none) : Same H (upd H1 a o) := fun b u e => by
  rw [upd_ne (ne_of_none e n)]
  exact s b u e
theorem All2.rev {α β : Type} {R : α → β → Prop} : ∀ {as : List α} {bs : List β}, All2 R as bs → All2 R as.reverse bs.reverse
  | _, _, .nil => .nil
  | _, _, .cons (as := as) (bs := bs) r t => by
    rw [List.reverse_cons, List.reverse_cons]
    exact All2.app (All2.rev t) (.cons r .nil)
theorem all2_split {R : V → Th → Prop} {h : Str → Option Th} : ∀ {ys : List Str} {us : List V}, All2 (fun y u => ∃ t, h y = some t ∧ R u t) ys us → ∃ ts, All2 R us ts ∧ All2 (fun y t => h y = some t) ys ts
  | _, _, .nil => ⟨[], .nil, .nil⟩
  | _, _, .cons r t => by
    obtain ⟨x, e, r⟩ := r
    obtain ⟨ts, h1, h2⟩ := all2_split t
    exact ⟨x :: ts, .cons r h1, .cons e h2⟩
theorem All2.mem2 {α β : Type} {R : α → β → Prop} {b : β} : ∀ {as : List α} {bs : List β}, All2 R as bs → b ∈ bs → ∃ a ∈ as, R a b
  | _, _, .nil, h => nomatch h
  | _, _, .cons r t, h => by
    rcases List.mem_cons.mp h with rfl | h
    · exact ⟨_, List.mem_cons_self, r⟩
    · obtain ⟨a, ha, hr⟩ := All2.mem2 t h
      exact ⟨a, List.mem_cons_of_mem _ ha, hr⟩
theorem heads_iff {K : PySem.W.Frag} {H : Hp} {kvs : List (Key × V)} {ks : List Str} {hd : Str → Option Th} (h2 : kvs.map (·.1) = ks.map Sum.inr) (h5 : ∀ x, HdR K H (valV kvs (.inr x)) (hd x)) (x : Str) : x ∈ ks ↔ hd x ≠ none := by
  have hx := h5 x
  constructor
  · intro hm e
    have hin : (.inr x : Key) ∈ kvs.map (·.1) := by
      rw [h2]
      exact List.mem_map_of_mem hm
    cases e1 : valV kvs (.inr x) with
    | none => exact valV_not e1 hin
    | some v =>
      rw [e1, e] at hx
      exact hx
  · intro hn
    cases e1 : valV kvs (.inr x) with
    | none =>
      rw [e1] at hx
      cases e2 : hd x with
      | none => exact absurd e2 hn
      | some t => rw [e2] at hx; exact hx.elim
    | some v =>
      have := valV_in e1
      rw [h2] at this
      obtain ⟨y, hy, e⟩ := List.mem_map.mp this
      cases e
      exact hy
def msM (S : NS) (ms : List Nat) (st : List Th) : Nat := (S.made.length - ms.length) * 4 + st.length
end PM
namespace K24
open PySem PySem.Spec PyProof.Rows L2 ZX PM ZR
abbrev sHMet : Stmt := inClass (top 50) 13
abbrev sHWaiting : Stmt := inClass (top 50) 3
abbrev sHWorked : Stmt := inClass (top 50) 4
abbrev sHSaid : Stmt := inClass (top 50) 5
section
variable {P : Program} {w : World} {K : PySem.W.Frag} {mg : Str → Option Value} {base : Heap} {C : Addr} {F : List (Str × Addr)} {ns : List Str}
def spMet (fm : Fam P w K mg base) (C : Addr) (F : List (Str × Addr)) (ns : List Str) : Sp := fun vs H Q _ => ∃ (A : Ad) (S : NS) (l : fm.L), vs = [.ref A.x] ∧ NtAt fm C F ns H A S l ∧
  ∀ q ms H', Same H H' → H q = none → H' q = some (.dK (mtKV ms)) → MetS S ms → ms.Nodup → (∀ n ∈ ms, n < S.made.length) → Q (.ref q) H'
abbrev NMet : List Str := ["self", "met", "ahead", "kind", "what", "name"]
theorem scHMet : FnScope NMet ["self"] (defScope sHMet) := ⟨rfl, rfl, rfl, by decide +kernel, rfl, by decide +kernel, by decide +kernel⟩
theorem ok_met {fm : Fam P w K mg base} {f : Addr} {fd : FuncData} (FD : FunD K "_met" "Holding._met" (defArgs sHMet) (defBody sHMet) (defScope sHMet) [] [] f fd) (T : Bi mg) (c : NtC K C) (bso : mg "sorted" = none) (hns : ns.length < 64) (M_now : MCal P w K mg base C "_now" 1 ["self", "thing"] (spNow fm C F ns)) : FnOk P w K mg base CX0 2 f fd ["self"] (spMet fm C F ns) := by
  refine FD.ok scHMet (fun vs H Q E h => ?_) (fun cdv A0 outer s H vs Q E hr h => ?_)
  · obtain ⟨A, S, l, rfl, _⟩ := h
    rfl
  · obtain ⟨A, S, l, rfl, hN, k⟩ := h
    have hu := hu_of hr
    refine ⟨_, PSs.nox (pss_cut (ps_set (i := 1) scHMet.nd rfl (Or.inl rfl) pe_dnewK)
    (pss_cut (ps_set (i := 2) scHMet.nd rfl (Or.inl rfl) (pe_revL (pe_lcS (own := [("name", 5)]) (g := gName 5) (tt := tYes) (te := tDGet (tFld K (tVar 0) "heads") (tVar 5)) (by rfl) scHMet.nd (pi_list (pe_callB (call_sortedD rfl) (by rfl) bso (by decide +kernel) (pa_cons (pe_fld (pv 0) rfl) pa_nil))) (blkOk_by (N := NMet) (sc := defScope sHMet) (by decide +kernel)) (fun _ _ _ _ _ => (pg_name (i := 5) scHMet.nd rfl (Or.inl rfl))) (fun _ _ _ _ _ => pts_nil) (fun _ _ _ _ _ => (pe_dget hu (pe_fld (pv 0) rfl) (pv 5) (fun _ _ => rfl))))))
    (pss_cons (ps_while PassesOwn.never (pt_truth (pv 2) (by intro _; rfl)) (pss_cons (ps_asg (pmc M_now hr (pv 0) (pa_cons (pe_bm0 PySem.F.plainAttrs_list PySem.F.slot_list_pop PySem.F.type_list_pop mt_pop (pv 2)) pa_nil)) (pg_tup rfl (pgs_cons (pg_name (i := 3) scHMet.nd rfl (Or.inl rfl)) (pgs_cons (pg_name (i := 4) scHMet.nd rfl (Or.inl rfl)) pgs_nil))))
      (pss_one (ps_if (PW.pt (pw_and (pt_cmpR op_eq (pv 3) pe_str (nomark _)) (pw_and1 (pt_cmp (pc_dnotin hu (pv 4) (pv 1)))))) (pss_cons (ps_dput hu (pv 1) (pv 4) (pe_callB call_lenD (by rfl) T.b_len (by decide +kernel) (pa_cons (pv 1) pa_nil)) rfl)
        (pss_one (ps_expr (pe_bm PySem.F.plainAttrs_list PySem.F.slot_list_extend PySem.F.type_list_extend mt_extT (pv 2) (pa_cons (ZR.pe_revT (pe_ix ix_tup (pe_ix ix_list (pe_fld (pv 0) rfl) (pv 4) (fun _ _ => rfl)) pe_int (fun _ _ => rfl))) pa_nil))))) pss_nil))))
    (pss_one (ps_ret (pv 1)))))), ?_⟩
    refine ⟨fun σ1 H1 => ∃ da, σ1 = [some (.ref A.x), some (.ref da), none, none, none, none] ∧ H da = none ∧ Same H H1 ∧ H1 da = some (.dK (mtKV [])), fun da nd => ⟨da, rfl, nd, same_new nd, upd_same⟩, ?_⟩
    rintro σ1 H1 ⟨da, rfl, nda, s1, hda1⟩
    have hN1 := hN.same s1
    obtain ⟨kvs, ks, h1, h2, h3, h4, h5⟩ := hN1.hh
    have hks : ks.length < 64 := Nat.lt_of_le_of_lt (h3.length_le_of_subset fun y hy => h4 y hy) hns
    refine ⟨fun σ2 H2 => ∃ aa ys ts us, σ2 = [some (.ref A.x), some (.ref da), some (.ref aa), none, none, none] ∧ H1 aa = none ∧ Same H1 H2 ∧ H2 aa = some (.lst us.reverse) ∧ All2 (ThAt K H2) us ts ∧ sortedS ys = true ∧ ys.Nodup ∧ (∀ x, x ∈ ys ↔ S.heads x ≠ none) ∧ All2 (fun y t => S.heads y = some t) ys ts ∧ us.length ≤ 63, ?_, ?_⟩
    · refine lc_into ?_
      refine ⟨_, rfl, A.x, C, A.dx, _, _, rfl, hN1.hx, c.c, c.n_heads, rfl, A.ha, kvs, ks, rfl, .inl h1, h2, hks, fun ys p hp hs np => ?_⟩
      have sp := same_new (o := .lst (ys.map V.str)) np
      have hN2 := hN1.same sp
      have hyl : ys.length = ks.length := hp.length_eq
      refine ⟨p, rfl, ⟨_, SqL.of upd_same⟩, ?_⟩
      refine lc_overA (p := none) (as := ys) (zs := ys.map V.str) (Rel := fun H' y u => ∃ t, S.heads y = some t ∧ ThAt K H' u t) it_list ?_ (fun _ _ _ _ p h => ?_) (fun _ h => nomatch h) ?_ (fun H' kq _ => kq.same.seq (SqL.of upd_same)) ?_ ?_
      · rw [List.length_map]
      · obtain ⟨t, e, h⟩ := h
        exact ⟨t, e, h.pt p⟩
      · rw [List.length_map, hyl]
        exact Nat.lt_trans hks (by decide)
      · intro j z y hz hy H3 kq pt3 R kR
        rw [List.getElem?_map, hy] at hz
        cases hz
        have hN3 := hN2.same kq.same
        have hyk : y ∈ ks := hp.mem_iff.mp (List.mem_of_getElem? hy)
        have h13 := kq.same _ _ (sp _ _ h1)
        have hx := h5 y
        have hin : (.inr y : Key) ∈ kvs.map (·.1) := by
          rw [h2]
          exact List.mem_map_of_mem hyk
        cases e1 : valV kvs (.inr y) with
        | none => exact absurd hin (valV_not e1)
        | some v =>
          rw [e1] at hx
          cases e2 : S.heads y with
          | none => rw [e2] at hx; exact hx.elim
          | some t =>
            rw [e2] at hx
            have hg := DGet.k (k := .inr y) h13
            rw [e1] at hg
            exact ⟨rfl, _, rfl, A.x, C, A.dx, _, _, rfl, hN3.hx, c.c, c.n_heads, rfl, _, rfl, A.ha, _, rfl, hg, kR _ _ (Same.kq fun _ _ h => h) (Pt.refl _) ⟨t, e2, (ThAt.pt sp.pt hx).pt kq.same.pt⟩⟩
      · intro D us H3 kq pt3 nD hD all
        refine ⟨D, us, rfl, SqL.of hD, fun q nq => ?_⟩
        have s3 := sp.trans kq.same
        have sq := same_new (o := .lst us.reverse) nq
        have sz := heads_iff h2 h5
        obtain ⟨ts, t1, t2⟩ := all2_split all
        refine ⟨q, ys, ts, us, rfl, s3.free nq, s3.trans sq, upd_same, t1.imp fun _ _ h => h.pt sq.pt, hs, hp.nodup_iff.mpr h3, fun x => ?_, t2, ?_⟩
        · rw [hp.mem_iff]
          exact sz x
        · rw [t1.len, ← t2.len, hyl]
          omega
    rintro σ2 H2 ⟨aa, ys, ts, us0, rfl, naa, s2, haa2, hu0, hso, hyn, hym, hyt, hul⟩
    have nda2 := s2 _ _ hda1
    have dneq : da ≠ aa := ne_of_none hda1 naa
    have naa0 : H aa = none := s1.free naa
    -- between two turns
    refine ⟨fun n σ' H' => ∃ (st : List Th) (us : List V) (ms : List Nat) (y3 y4 : Option V), σ' = [some (.ref A.x), some (.ref da), some (.ref aa), y3, y4, none] ∧ Same H H' ∧ H' aa = some (.lst us.reverse) ∧ H' da = some (.dK (mtKV ms)) ∧ All2 (ThAt K H') us st ∧
      ms.Nodup ∧ (∀ n ∈ ms, n < S.made.length) ∧ (∀ t ∈ st, OkT fm S t) ∧ us.length ≤ 63 + 3 * ms.length ∧ (∀ r, Me S st ms r → Me S ts [] r) ∧ n = msM S ms st, ⟨_, ts, us0, [], none, none, rfl, s1.trans s2, haa2, nda2, hu0, List.nodup_nil, fun _ h => (nomatch h), fun t ht => ?_, hul, fun r h => h, rfl⟩, ?_⟩
    · obtain ⟨y, _, e⟩ := All2.mem2 hyt ht
      exact hN.wf.hd e
    rintro n σ' H' ⟨st, us, ms, y3, y4, rfl, sm, haa, hda, hus, hnd, hlt, hok, hsz, kM, rfl⟩
    refine ⟨_, rfl, _, .inl ⟨_, SqL.of haa, rfl⟩, ?_⟩
    cases hus with
    | nil => exact ifBF rfl ⟨_, rfl, k da ms H' sm nda hda ⟨ys, ts, hso, hyn, hym, hyt, kM ms .done⟩ hnd hlt⟩
    | @cons v t us st hv hus =>
    rw [List.reverse_cons] at haa ⊢
    have hne : (!(us.reverse ++ [v]).isEmpty) = true := by
      cases us.reverse <;> rfl
    refine ifB hne ?_
    refine ⟨fun σ3 H3 => ∃ m', m' < msM S ms (t :: st) ∧ ∃ (st : List Th) (us : List V) (ms : List Nat) (y3 y4 : Option V), σ3 = [some (.ref A.x), some (.ref da), some (.ref aa), y3, y4, none] ∧ Same H H3 ∧ H3 aa = some (.lst us.reverse) ∧ H3 da = some (.dK (mtKV ms)) ∧ All2 (ThAt K H3) us st ∧
      ms.Nodup ∧ (∀ n ∈ ms, n < S.made.length) ∧ (∀ t ∈ st, OkT fm S t) ∧ us.length ≤ 63 + 3 * ms.length ∧ (∀ r, Me S st ms r → Me S ts [] r) ∧ m' = msM S ms st, fun _ _ h => h, ?_⟩
    have hN' := hN.same sm
    have s3 : Same H (upd H' aa (.lst us.reverse)) := same_putN sm naa0
    have p3 : Pt H' (upd H' aa (.lst us.reverse)) := (Fz.put (M := [aa]) (o := .lst us.reverse) (fun b hb => by rw [List.mem_singleton.mp hb]; exact .inl ⟨_, haa⟩) List.mem_cons_self (.inl ⟨_, rfl⟩)).pt (fun b hb => by rw [List.mem_singleton.mp hb]; exact .inl ⟨_, haa⟩)
    have hN3 := hN.same s3
    have hda3 : upd H' aa (.lst us.reverse) da = some (.dK (mtKV ms)) := (upd_ne dneq).trans hda
    have hokt := hok t List.mem_cons_self
    have hnow := hN.wf.now hokt
    have hsz1 : us.length + 1 ≤ 63 + 3 * ms.length := hsz
    refine ⟨_, rfl, A.x, A.dx, _, rfl, hN'.hx, rfl, _, rfl, .inl ⟨rfl, _, SqL.of haa⟩, aa, _, v, rfl, rfl, haa, by simp, ?_⟩
    rw [List.dropLast_concat]
    refine ⟨A, S, l, v, t, rfl, hN3, hv.pt p3, fun u H4 s4 hu4 => ?_⟩
    obtain ⟨ua, rfl, hU⟩ := hu4
    have sm4 := s3.trans s4
    have hN4 := hN.same sm4
    have hda4 := s4 _ _ hda3
    have haa4 := s4 _ _ (show upd H' aa (.lst us.reverse) aa = some (.lst us.reverse) from upd_same)
    have hus4 : All2 (ThAt K H4) us st := hus.imp fun _ _ h => (h.pt p3).pt s4.pt
    have hms : ms.length ≤ S.made.length := nodup_lt hnd hlt
    cases enow : nowS S t with
    | worth wv =>
      rw [enow] at hU
      refine ⟨ua, _, rfl, hU, rfl, _, _, rfl, _, _, rfl, rfl, ?_⟩
      refine ⟨_, rfl, rfl, _, rfl, ifBF (by decide +kernel) ?_⟩
      refine ⟨_, ?_, st, us, ms, _, _, rfl, sm4, haa4, hda4, hus4, hnd, hlt, fun t ht => hok t (List.mem_cons_of_mem _ ht), by omega, fun r h => kM r (.skip (fun n e => by rw [enow] at e; cases e) h), rfl⟩
      show _ + st.length < _ + (st.length + 1)
      omega
    | note n =>
      rw [enow] at hU
      refine ⟨ua, _, rfl, hU, rfl, _, _, rfl, _, _, rfl, rfl, ?_⟩
      have hg := DGet.k (k := .inl (n : Int)) hda4
      refine ⟨_, rfl, rfl, _, rfl, ifB (by decide +kernel) ⟨_, rfl, _, rfl, da, _, rfl, hg, _, rfl, ?_⟩⟩
      by_cases hm : n ∈ ms
      · obtain ⟨v0, e0⟩ := mt_some hm
        rw [e0]
        refine ifBF rfl ⟨_, ?_, st, us, ms, _, _, rfl, sm4, haa4, hda4, hus4, hnd, hlt, fun t ht => hok t (List.mem_cons_of_mem _ ht), by omega, fun r h => kM r (.skip (fun j e => by rw [enow] at e; cases e; exact hm) h), rfl⟩
        show _ + st.length < _ + (st.length + 1)
        omega
      · rw [mt_none hm]
        have hnl : n < S.made.length := hnow.1 n enow
        have hget : S.made[n]? = some S.made[n] := List.getElem?_eq_getElem hnl
        have hlow := hN.wf.low n _ hget
        have hml : ms.length < S.made.length := by
          have := nodup_lt (n := S.made.length) (l := n :: ms) (List.nodup_cons.mpr ⟨hm, hnd⟩) (fun j hj => by
            rcases List.mem_cons.mp hj with rfl | hj
            · exact hnl
            · exact hlt j hj)
          exact this
        have hsm := hN.wf.szm
        refine ifB rfl ?_
        refine ⟨_, rfl, da, _, rfl, hda4, _, rfl, _, rfl, da, _, rfl, DPut.k (k := .inl (n : Int)) hda4 (by rw [mt_len]; exact Nat.lt_of_lt_of_le hml (Nat.le_trans hsm (by decide))), ?_⟩
        rw [mt_len, mt_snoc hm]
        have sm5 : Same H (upd H4 da (.dK (mtKV (ms ++ [n])))) := same_putN sm4 nda
        have p5 : Pt H4 (upd H4 da (.dK (mtKV (ms ++ [n])))) := (Fz.put (M := [da]) (o := .dK (mtKV (ms ++ [n]))) (fun b hb => by rw [List.mem_singleton.mp hb]; exact .inr ⟨_, hda4⟩) List.mem_cons_self (.inr ⟨_, rfl⟩)).pt (fun b hb => by rw [List.mem_singleton.mp hb]; exact .inr ⟨_, hda4⟩)
        have hN5 := hN.same sm5
        have haa5 : upd H4 da (.dK (mtKV (ms ++ [n]))) aa = some (.lst us.reverse) := (upd_ne (Ne.symm dneq)).trans haa4
        obtain ⟨mus, hma, hall⟩ := hN5.hm
        obtain ⟨mu, hmu0, ⟨a, b, ps, rfl, hSa, hSb, hps⟩⟩ := hall.getR hget
        refine ⟨_, rfl, .inl ⟨rfl, _, SqL.of haa5⟩, _, rfl, A.x, C, A.dx, _, _, rfl, hN5.hx, c.c, c.n_made, rfl, _, rfl, A.ma, mus, _, _, rfl, rfl, SqL.of hma, atI_nat hmu0, a, _, 1, _, rfl, rfl, hSa, rfl, b, ps, rfl, hSb, fun q nq => ?_⟩
        have s6 := same_new (o := .tup ps.reverse) nq
        have hpl : ps.length ≤ 3 := by
          rw [hps.len]
          exact hlow.1
        have aaq : aa ≠ q := ne_of_none haa5 nq
        refine ⟨aa, q, _, _, rfl, rfl, s6 _ _ haa5, .inl (.inl upd_same), ?_, ?_⟩
        · rw [List.length_reverse, List.length_reverse]
          exact Nat.le_trans (show us.length + ps.length ≤ 63 + 3 * 50000 by omega) (by decide)
        have haa6 := s6 _ _ haa5
        have p7 : Pt (upd (upd H4 da (.dK (mtKV (ms ++ [n])))) q (.tup ps.reverse)) (upd (upd (upd H4 da (.dK (mtKV (ms ++ [n])))) q (.tup ps.reverse)) aa (.lst (us.reverse ++ ps.reverse))) := (Fz.put (M := [aa]) (o := .lst (us.reverse ++ ps.reverse)) (fun b hb => by rw [List.mem_singleton.mp hb]; exact .inl ⟨_, haa6⟩) List.mem_cons_self (.inl ⟨_, rfl⟩)).pt (fun b hb => by rw [List.mem_singleton.mp hb]; exact .inl ⟨_, haa6⟩)
        refine ⟨_, ?_, S.made[n].2 ++ st, ps ++ us, ms ++ [n], _, _, rfl, same_putN (sm5.trans s6) naa0, by rw [upd_same, List.reverse_append], (upd_ne dneq).trans (s6 _ _ upd_same), ?_, ?_, ?_, ?_, ?_, fun r h => kM r (.meet enow hm hget h), rfl⟩
        · show (S.made.length - (ms ++ [n]).length) * 4 + (S.made[n].2 ++ st).length < (S.made.length - ms.length) * 4 + (st.length + 1)
          rw [List.length_append, List.length_append, List.length_singleton]
          have := hlow.1
          omega
        · refine All2.app (hps.imp fun _ _ h => ?_) (hus4.imp fun _ _ h => ?_)
          · exact (h.pt s6.pt).pt p7
          · exact ((h.pt p5).pt s6.pt).pt p7
        · exact List.nodup_append.mpr ⟨hnd, by simp, fun a ha b hb e => hm (by rw [List.mem_singleton.mp hb] at e; rw [← e]; exact ha)⟩
        · intro j hj
          rcases List.mem_append.mp hj with hj | hj
          · exact hlt j hj
          · rw [List.mem_singleton.mp hj]
            exact hnl
        · intro t2 ht2
          rcases List.mem_append.mp ht2 with ht2 | ht2
          · exact ⟨fun j e => Nat.lt_trans (hlow.2 j (by rw [← e]; exact ht2)) hnl, fun v2 e => hN.wf.okm _ (List.mem_of_getElem? hget) v2 (by rw [← e]; exact ht2)⟩
          · exact hok t2 (List.mem_cons_of_mem _ ht2)
        · rw [List.length_append, List.length_append, List.length_singleton]
          omega
def spWaiting (fm : Fam P w K mg base) (C : Addr) (F : List (Str × Addr)) (ns : List Str) : Sp := fun vs H Q _ => ∃ (A : Ad) (S : NS) (l : fm.L), vs = [.ref A.x] ∧ NtAt fm C F ns H A S l ∧
  ∀ q ms (is : List Int) H', Same H H' → SqT K H' q (is.map V.int) → MetS S ms → ms.Nodup → (∀ n ∈ ms, n < S.made.length) → is.Perm (ms.map fun (n : Nat) => (n : Int)) → is.Pairwise (· ≤ ·) → Q (.ref q) H'
theorem scHWaiting : FnScope ["self"] ["self"] (defScope sHWaiting) := ⟨rfl, rfl, rfl, by decide +kernel, rfl, by decide +kernel, by decide +kernel⟩
theorem ok_waiting {fm : Fam P w K mg base} {f : Addr} {fd : FuncData} (FD : FunD K "waiting" "Holding.waiting" (defArgs sHWaiting) (defBody sHWaiting) (defScope sHWaiting) [] [] f fd) (T : Bi mg) (c : NtC K C) (bso : mg "sorted" = none) (M_met : MCal P w K mg base C "_met" 2 ["self"] (spMet fm C F ns)) (M_nu : MCal P w K mg base C "_numbers" 1 ["self", "kept"] spNumbers) : FnOk P w K mg base CX0 3 f fd ["self"] (spWaiting fm C F ns) := by
  refine FD.ok scHWaiting (fun vs H Q E h => ?_) (fun cdv A0 outer s H vs Q E hr h => ?_)
  · obtain ⟨A, S, l, rfl, _⟩ := h
    rfl
  · obtain ⟨A, S, l, rfl, hN, k⟩ := h
    have hr1 := hr.mono (show 1 ≤ 2 by omega)
    refine ⟨_, PSs.nox (pss_one (ps_ret (pe_callTy call_tuple_of (by rfl) T.b_tuple (by decide +kernel) (pa_cons (pe_callB cr_sortedI (by rfl) bso (by decide +kernel) (pa_cons (pmc M_nu hr1 (pv 0) (pa_cons (pmc0 M_met hr (pv 0)) pa_nil)) pa_nil)) pa_nil)))), ?_⟩
    refine ⟨_, rfl, A.x, A.dx, _, rfl, hN.hx, rfl, _, rfl, A.x, A.dx, _, rfl, hN.hx, rfl, A, S, l, rfl, hN, fun q ms H1 s1 nq hq hM nd lt => ?_⟩
    refine ⟨_, q, _, rfl, hq, fun p H2 s2 np hp => ?_⟩
    have ek : (mtKV ms).map (fun kv => kV kv.1) = (ms.map fun (n : Nat) => (n : Int)).map V.int := by
      have := congrArg (List.map kV) (mt_keys ms)
      rw [List.map_map, List.map_map] at this
      rw [List.map_map]
      exact this
    rw [ek] at hp
    refine ⟨p, _, rfl, SqL.of hp, fun is q2 hperm hpw nq2 => ?_⟩
    have s3 := same_new (o := .lst (is.map V.int)) nq2
    refine ⟨q2, _, rfl, .inl ⟨SqL.of upd_same, fun q3 nq3 => ?_⟩⟩
    have s4 := same_new (o := .tup (is.map V.int)) nq3
    exact k q3 ms is _ (((s1.trans s2).trans s3).trans s4) (.inl (.inl upd_same)) hM nd lt hperm hpw
def spWorked (fm : Fam P w K mg base) (C : Addr) (F : List (Str × Addr)) (ns : List Str) : Sp := fun vs H Q _ => ∃ (A : Ad) (S : NS) (l : fm.L), vs = [.ref A.x] ∧ NtAt fm C F ns H A S l ∧ ∀ q H', Same H H' → SqT K H' q (S.worths.map fun p => .int (p.1 : Nat)) → Q (.ref q) H'
theorem scHWorked : FnScope ["self"] ["self"] (defScope sHWorked) := ⟨rfl, rfl, rfl, by decide +kernel, rfl, by decide +kernel, by decide +kernel⟩
theorem ok_worked {fm : Fam P w K mg base} {f : Addr} {fd : FuncData} (FD : FunD K "worked" "Holding.worked" (defArgs sHWorked) (defBody sHWorked) (defScope sHWorked) [] [] f fd) (T : Bi mg) (c : NtC K C) : FnOk P w K mg base CX0 1 f fd ["self"] (spWorked fm C F ns) := by
  refine FD.ok scHWorked (fun vs H Q E h => ?_) (fun cdv A0 outer s H vs Q E hr h => ?_)
  · obtain ⟨A, S, l, rfl, _⟩ := h
    rfl
  · obtain ⟨A, S, l, rfl, hN, k⟩ := h
    refine ⟨_, PSs.nox (pss_one (ps_ret (pe_callTy call_tuple_of (by rfl) T.b_tuple (by decide +kernel) (pa_cons (pe_fld (pv 0) rfl) pa_nil)))), ?_⟩
    exact ⟨_, rfl, A.x, C, A.dx, _, _, rfl, hN.hx, c.c, c.n_order, rfl, A.oa, _, rfl, .inl ⟨SqL.of hN.ho, fun q nq => k q _ (same_new nq) (.inl (.inl upd_same))⟩⟩
def spSaid (fm : Fam P w K mg base) (C : Addr) (F : List (Str × Addr)) (ns : List Str) : Sp := fun vs H Q _ => ∃ (A : Ad) (S : NS) (l : fm.L), vs = [.ref A.x] ∧ NtAt fm C F ns H A S l ∧ ∀ q H', Same H H' → SqT K H' q S.printed → Q (.ref q) H'
theorem scHSaid : FnScope ["self"] ["self"] (defScope sHSaid) := ⟨rfl, rfl, rfl, by decide +kernel, rfl, by decide +kernel, by decide +kernel⟩
theorem ok_said {fm : Fam P w K mg base} {f : Addr} {fd : FuncData} (FD : FunD K "said" "Holding.said" (defArgs sHSaid) (defBody sHSaid) (defScope sHSaid) [] [] f fd) (T : Bi mg) (c : NtC K C) : FnOk P w K mg base CX0 1 f fd ["self"] (spSaid fm C F ns) := by
  refine FD.ok scHSaid (fun vs H Q E h => ?_) (fun cdv A0 outer s H vs Q E hr h => ?_)
  · obtain ⟨A, S, l, rfl, _⟩ := h
    rfl
  · obtain ⟨A, S, l, rfl, hN, k⟩ := h
    refine ⟨_, PSs.nox (pss_one (ps_ret (pe_callTy call_tuple_of (by rfl) T.b_tuple (by decide +kernel) (pa_cons (pe_fld (pv 0) rfl) pa_nil)))), ?_⟩
    exact ⟨_, rfl, A.x, C, A.dx, _, _, rfl, hN.hx, c.c, c.n_printed, rfl, A.pa, _, rfl, .inl ⟨SqL.of hN.hp, fun q nq => k q _ (same_new nq) (.inl (.inl upd_same))⟩⟩
end
end K24
set_option Elab.async false
set_option linter.all false
set_option maxRecDepth 100000
set_option maxHeartbeats 4000000
namespace K24
open PySem PySem.Spec PyProof.Rows L2 ZX PM ZR
def spP : Sp := fun vs H Q _ => ∃ a : Addr, vs = [.ref a] ∧ Q .non H
/-- the class NoPlace, as the walk asks of it -/
structure NoP (P : Program) (w : World) (K : PySem.W.Frag) (mg : Str → Option Value) (base : Heap) (CN fI : Addr) (fd : FuncData) (ps : List Str) : Prop where
  T : OexC K CN
  iC : PySem.W.findIn K (.ref CN) "__init__" = some (some (.ref fI))
  tI : PySem.W.typeIn K (.ref fI) = some (.type "function")
  F1 : FnOk P w K mg base CX0 1 fI fd ps spP
  bd : Binds K fd ps []
  g : mg "NoPlace" = some (.ref CN)
/-- no place of n -/
def BadPl (K : PySem.W.Frag) (H : Hp) (v : V) (n : Nat) : Prop := NumV K H v false ∨ ∃ i : Int, v = .int i ∧ ¬ (0 ≤ i ∧ i < n)
def spRowAt (K : PySem.W.Frag) (C CN : Addr) : Sp := fun vs H Q E => ∃ (x : Addr) (v : V) (b : List Rw), vs = [.ref x, v] ∧ PrAt K C H x b ∧
  ((∃ (i : Nat) (r : Rw), v = .int i ∧ (rowsB b)[i]? = some r ∧ ∀ y, RV K H y r → Q y H) ∨ (BadPl K H v (rowsB b).length ∧ ∀ H', Same H H' → E (.ref CN) none H'))
def spNexts (K : PySem.W.Frag) (C CN : Addr) : Sp := fun vs H Q E => ∃ (x : Addr) (v : V) (b : List Rw), vs = [.ref x, v] ∧ PrAt K C H x b ∧
  ((∃ (i : Nat) (l : List Nat), v = .int i ∧ (leadsP b)[i]? = some l ∧ ∀ y, Tv K H y (encL l) → NxAt K C H x i y → Q y H) ∨ (BadPl K H v (leadsP b).length ∧ ∀ H', Same H H' → E (.ref CN) none H'))
def spNames (K : PySem.W.Frag) (C : Addr) : Sp := fun vs H Q _ => ∃ (x : Addr) (b : List Rw), vs = [.ref x] ∧ PrAt K C H x b ∧ ∀ t ys, IsLot ys ((rowsB b).flatMap namesR) → SqT K H t (ys.map V.str) → Q (.ref t) H
theorem same_del {H : Hp} {a : Addr} {o : HO} (n : H a = none) : Same H (delH (upd H a o) a) := fun b u e => by
  have ne := ne_of_none e n
  rw [delH_ne ne, upd_ne ne]
  exact e
theorem fr0_of {H : Hp} {a : Addr} (n : H a = none) : Fr0 H a := fun o e => by
  rw [n] at e
  cases e
section
variable {P : Program} {w : World} {K : PySem.W.Frag} {mg : Str → Option Value} {base : Heap}
theorem scNames : FnScope ["program"] ["program"] (defScope sNames) := ⟨rfl, rfl, rfl, by decide +kernel, rfl, by decide +kernel, by decide +kernel⟩
theorem ok_names {C f : Addr} {fd : FuncData} (F : FnP K "names" sNames f fd) (T : Bi mg) (c : PrC K C) : FnOk P w K mg base CX0 1 f fd ["program"] (spNames K C) := by
  refine F.ok scNames (fun vs H Q E h => ?_) (fun cdv A outer s H vs Q E hr h => ?_)
  · obtain ⟨x, b, rfl, _⟩ := h
    rfl
  · obtain ⟨x, b, rfl, ⟨dx, v, ra, na, la, rs, ls, ys, hx, tv, G, h1, h2, h3, h4, h5, ly⟩, k⟩ := h
    refine ⟨_, PSs.nox (pss_one (ps_ret (pe_fld (pv 0) rfl))), ?_⟩
    exact ⟨_, rfl, x, C, dx, _, _, rfl, hx, c.c, c.n4, rfl, k na ys ly h5⟩
theorem scRow_at : FnScope ["program", "place"] ["program", "place"] (defScope sRow_at) := ⟨rfl, rfl, rfl, by decide +kernel, rfl, by decide +kernel, by decide +kernel⟩
theorem ok_row_at {C CN fI f : Addr} {fdI fd : FuncData} {psI : List Str} (F : FnP K "row_at" sRow_at f fd) (T : Bi mg) (c : PrC K C) (N : NoP P w K mg base CN fI fdI psI) (C_is_number_below : Cal P w K mg base "is_number_below" 2 ["limit", "thing"] (spBelow K)) : FnOk P w K mg base (L2.CX P w) 3 f fd ["program", "place"] (spRowAt K C CN) := by
  refine F.ok scRow_at (fun vs H Q E h => ?_) (fun cdv A outer s H vs Q E hr h => ?_)
  · obtain ⟨x, v, b, rfl, _⟩ := h
    rfl
  · obtain ⟨x, v, b, rfl, ⟨dx, vb, ra, na, la, rs, ls, yn, hx, tv, G, h1, h2, h3, h4, h5, h6⟩, h⟩ := h
    have hr_is_number_below := hr
    refine ⟨_, (pss_cons (ps_if (pt_not (pt_val (pcal C_is_number_below hr_is_number_below rfl (pa_cons (pe_callB call_len_seq (by rfl) T.b_len (by decide +kernel) (pa_cons (pe_fld (pv 0) rfl) pa_nil)) (pa_cons (pv 1) pa_nil))))) (pss_one (ps_raise rfl (takes_of rfl rfl rfl rfl) (pmk_ret rfl (pe_oexN N.T N.iC N.tI N.F1 (fun _ _ _ _ _ m h => by obtain ⟨a, e, q⟩ := h; exact ⟨a, e, m _ _ q⟩) (hr.mono (by decide)) N.bd rfl N.g)))) pss_nil)
    (pss_one (ps_ret (pe_ix ix_tup (pe_fld (pv 0) rfl) (pv 1) (fun _ _ => rfl))))), ?_⟩
    have hln := h2.len
    rw [List.length_map] at hln
    refine ⟨_, rfl, x, C, dx, _, _, rfl, hx, c.c, c.n2, rfl, ra, _, rfl, .inr h1, _, rfl, ?_⟩
    rcases h with ⟨i, r, rfl, hi, k⟩ | ⟨hb, k⟩
    · have hlt : i < (rowsB b).length := (List.getElem?_eq_some_iff.mp hi).1
      obtain ⟨y, hy, ty⟩ := Tvs.get (i := i) h2 (by rw [List.getElem?_map, hi]; rfl)
      refine ⟨_, _, rfl, .inl ⟨_, rfl, _, rfl, ?_⟩⟩
      rw [decide_eq_true (show (0 : Int) ≤ (i : Int) by omega), decide_eq_true (by omega)]
      exact ⟨_, rfl, x, C, dx, _, _, rfl, hx, c.c, c.n2, rfl, _, rfl, ra, _, _, _, rfl, rfl, h1, at_of rfl hy, k y ty⟩
    · have hrs := fun (a : Addr) (na : H a = none) => k (delH (upd (upd H a (exo a CN none)) a (ExO (.ref CN) a)) a) (by rw [upd_upd]; exact same_del na)
      rcases hb with hb | ⟨i, rfl, hi⟩
      · exact ⟨_, _, rfl, .inr ⟨hb, _, rfl, fun a na => ⟨a, rfl, rfl, upd_same, a, .ref CN, rfl, upd_same, fr0_of na, raises_own N.T.exC N.T.tyC, hrs a na⟩⟩⟩
      · refine ⟨_, _, rfl, .inl ⟨i, rfl, _, rfl, ?_⟩⟩
        have hz : (decide (0 ≤ i) && decide (i < (rs.length : Int))) = false := by
          rw [← Bool.decide_and, decide_eq_false]
          rw [hln]
          exact hi
        rw [hz]
        exact fun a na => ⟨a, rfl, rfl, upd_same, a, .ref CN, rfl, upd_same, fr0_of na, raises_own N.T.exC N.T.tyC, hrs a na⟩
theorem scNexts : FnScope ["program", "place"] ["program", "place"] (defScope sNexts) := ⟨rfl, rfl, rfl, by decide +kernel, rfl, by decide +kernel, by decide +kernel⟩
theorem ok_nexts {C CN fI f : Addr} {fdI fd : FuncData} {psI : List Str} (F : FnP K "nexts" sNexts f fd) (T : Bi mg) (c : PrC K C) (N : NoP P w K mg base CN fI fdI psI) (C_is_number_below : Cal P w K mg base "is_number_below" 2 ["limit", "thing"] (spBelow K)) : FnOk P w K mg base (L2.CX P w) 3 f fd ["program", "place"] (spNexts K C CN) := by
  refine F.ok scNexts (fun vs H Q E h => ?_) (fun cdv A outer s H vs Q E hr h => ?_)
  · obtain ⟨x, v, b, rfl, _⟩ := h
    rfl
  · obtain ⟨x, v, b, rfl, ⟨dx, vb, ra, na, la, rs, ls, yn, hx, tv, G, h1, h2, h3, h4, h5, h6⟩, h⟩ := h
    have hr_is_number_below := hr
    refine ⟨_, (pss_cons (ps_if (pt_not (pt_val (pcal C_is_number_below hr_is_number_below rfl (pa_cons (pe_callB call_len_seq (by rfl) T.b_len (by decide +kernel) (pa_cons (pe_fld (pv 0) rfl) pa_nil)) (pa_cons (pv 1) pa_nil))))) (pss_one (ps_raise rfl (takes_of rfl rfl rfl rfl) (pmk_ret rfl (pe_oexN N.T N.iC N.tI N.F1 (fun _ _ _ _ _ m h => by obtain ⟨a, e, q⟩ := h; exact ⟨a, e, m _ _ q⟩) (hr.mono (by decide)) N.bd rfl N.g)))) pss_nil)
    (pss_one (ps_ret (pe_ix ix_tup (pe_fld (pv 0) rfl) (pv 1) (fun _ _ => rfl))))), ?_⟩
    have hln := h4.len
    rw [List.length_map] at hln
    refine ⟨_, rfl, x, C, dx, _, _, rfl, hx, c.c, c.n3, rfl, la, _, rfl, .inr h3, _, rfl, ?_⟩
    rcases h with ⟨i, r, rfl, hi, k⟩ | ⟨hb, k⟩
    · have hlt : i < (leadsP b).length := (List.getElem?_eq_some_iff.mp hi).1
      obtain ⟨y, hy, ty⟩ := Tvs.get (i := i) h4 (by rw [List.getElem?_map, hi]; rfl)
      refine ⟨_, _, rfl, .inl ⟨_, rfl, _, rfl, ?_⟩⟩
      rw [decide_eq_true (show (0 : Int) ≤ (i : Int) by omega), decide_eq_true (by omega)]
      exact ⟨_, rfl, x, C, dx, _, _, rfl, hx, c.c, c.n3, rfl, _, rfl, la, _, _, _, rfl, rfl, h3, at_of rfl hy, k y ty ⟨dx, vb, ra, na, la, ls, hx, h3, hy⟩⟩
    · have hrs := fun (a : Addr) (na : H a = none) => k (delH (upd (upd H a (exo a CN none)) a (ExO (.ref CN) a)) a) (by rw [upd_upd]; exact same_del na)
      rcases hb with hb | ⟨i, rfl, hi⟩
      · exact ⟨_, _, rfl, .inr ⟨hb, _, rfl, fun a na => ⟨a, rfl, rfl, upd_same, a, .ref CN, rfl, upd_same, fr0_of na, raises_own N.T.exC N.T.tyC, hrs a na⟩⟩⟩
      · refine ⟨_, _, rfl, .inl ⟨i, rfl, _, rfl, ?_⟩⟩
        have hz : (decide (0 ≤ i) && decide (i < (ls.length : Int))) = false := by
          rw [← Bool.decide_and, decide_eq_false]
          rw [hln]
          exact hi
        rw [hz]
        exact fun a na => ⟨a, rfl, rfl, upd_same, a, .ref CN, rfl, upd_same, fr0_of na, raises_own N.T.exC N.T.tyC, hrs a na⟩
end
end K24
set_option Elab.async false
set_option linter.all false
set_option maxRecDepth 100000
set_option maxHeartbeats 4000000
/-! ops, functions_of, place_behind. -/
namespace PM
open PySem PySem.Spec PyProof.Rows L2 ZX ZR
section
variable {w : World} {α : Type} {as : List α} {pr : α → Bool} {f : α → Str} {J : It} {zs : List V} {St : Hp → Prop} {g : TG} {tt : TT} {te : TE} {vs : List Nat} {σ : L2.St} {H1 : Hp} {Q : VK}
/-- {e for t in i if c}: each thing that is taken gives a text -/
theorem sc1_over (O : IterOf J zs St) (hz : as.length = zs.length) (hlen : as.length + 1 < scanBound) (st : ∀ H', Same H1 H' → Pt H1 H' → St H')
    (step : ∀ (k : Nat) x c, zs[k]? = some x → as[k]? = some c → ∀ H', Same H1 H' → Pt H1 H' → ∀ (R0 : Hp → Prop) (R1 : VK), (pr c = false → R0 H') → (pr c = true → R1 (.str (f c)) H') → g x (wipe σ vs) H' fun σ2 H2 => wipe σ2 vs = wipe σ vs ∧ tt σ2 H2 fun b H3 => if b = true then te σ2 H3 R1 else R0 H3)
    (fin : ∀ D H', Same H1 H' → H1 D = none → H' D = some (SetTO w D (insAll ((as.filter pr).map f))) → Q (.ref D) H') :
    tSc1S w (fun _ _ R => R J H1) g tt te vs σ H1 Q := by
  rw [sc1S]
  intro D hD
  refine ⟨fun k m H => m = zs.length - k ∧ k ≤ zs.length ∧ Same H1 H ∧ Pt H1 H ∧ H D = some (SetTO w D (insAll (((as.take k).filter pr).map f))), ⟨zs.length, rfl, Nat.zero_le _, same_new hD, Pt.new hD, by rw [List.take_zero]; exact upd_same⟩, ?_⟩
  rintro k m H ⟨rfl, hk, sm, pt, hks⟩
  have hst := st H sm pt
  by_cases hlt : k < zs.length
  · refine .inr ⟨O.go k H hst hlt, fun H' => k + 1 ≤ zs.length ∧ Same H1 H' ∧ Pt H1 H' ∧ H' D = some (SetTO w D (insAll (((as.take (k + 1)).filter pr).map f))), fun H' h => ⟨zs.length - (k + 1), by omega, rfl, h⟩, fun x H' y => ?_⟩
    obtain ⟨rfl, hx⟩ := O.yld k H x H' hst hlt y
    have hka : k < as.length := by omega
    have hc : as[k]? = some as[k] := List.getElem?_eq_getElem hka
    have htk : as.take (k + 1) = as.take k ++ [as[k]] := by
      rw [List.take_succ, hc]
      rfl
    refine step k x as[k] hx hc H' sm pt _ _ (fun e => ⟨hlt, sm, pt, ?_⟩) (fun e => ⟨f as[k], _, rfl, hks, ?_, hlt, same_putN sm hD, pt.trans (Pt.ext hks), ?_⟩)
    · rw [htk, List.filter_append, List.filter_cons, e]
      simpa using hks
    · have h1 := (insAll_ok (((as.take k).filter pr).map f)).2.2
      have h2 : ((as.take k).filter pr).length ≤ as.length := Nat.le_trans (List.length_filter_le _ _) (by rw [List.length_take]; omega)
      rw [List.length_map] at h1
      omega
    · rw [upd_same, htk, List.filter_append, List.filter_cons, e, List.map_append]
      simp [insAll_snoc]
  · have e : as.take k = as := List.take_of_length_le (by omega)
    rw [e] at hks
    have ek : k = zs.length := by omega
    subst ek
    exact .inl ⟨O.stop H hst, fin D H sm hD hks⟩
end
theorem ints_of {K : PySem.W.Frag} {H : Hp} : ∀ {l : List Nat} {xs : List V}, Tvs K H xs (l.map fun (n : Nat) => PyData.int (n : Int)) → xs = natV l
  | [], _, h => by
    cases h
    rfl
  | _ :: _, _, h => by
    cases h with
    | cons h1 h2 =>
      cases h1
      rw [ints_of h2]
      rfl
def isNote : Rw → Bool
  | .note _ _ _ => true
  | _ => false
def opOf : Rw → Str
  | .note _ o _ => o
  | _ => ""
def opsB (b : List Rw) : List Str := ((rowsB b).filter isNote).map opOf
end PM
namespace K24
open PySem PySem.Spec PyProof.Rows L2 ZX PM ZR
abbrev sOps : Stmt := top 38
abbrev sFunctionsOf : Stmt := top 49
abbrev sPlaceBehind : Stmt := top 53
section
variable {P : Program} {w : World} {K : PySem.W.Frag} {mg : Str → Option Value} {base : Heap}
def spOps (K : PySem.W.Frag) (C : Addr) : Sp := fun vs H Q _ => ∃ (x : Addr) (b : List Rw), vs = [.ref x] ∧ PrAt K C H x b ∧ ∀ t ys H', Same H H' → IsLot ys (opsB b) → H' t = some (.tup (ys.map V.str)) → Q (.ref t) H'
theorem scOps : FnScope ["program", "row"] ["program"] (defScope sOps) := ⟨rfl, rfl, rfl, by decide +kernel, rfl, by decide +kernel, by decide +kernel⟩
theorem ok_ops {C f : Addr} {fd : FuncData} (FD : FnP K "ops" sOps f fd) (T : Bi mg) (c : PrC K C) : FnOk P w K mg base CX0 1 f fd ["program"] (spOps K C) := by
  refine FD.ok scOps (fun vs H Q E h => ?_) (fun cdv A0 outer s H vs Q E hr h => ?_)
  · obtain ⟨x, b, rfl, _⟩ := h
    rfl
  · obtain ⟨x, b, rfl, ⟨dx, v, ra, na, la, rs, ls, ys, hx, tv, G, h1, h2, h3, h4, h5, ly⟩, k⟩ := h
    have hz : (rowsB b).length = rs.length := by rw [h2.len, List.length_map]
    have l30 := G.l30
    refine ⟨_, PSs.nox (pss_one (ps_ret (pe_callTy call_tuple_of (by rfl) T.b_tuple (by decide +kernel) (pa_cons (pe_callB (call_sortTx rfl) (by rfl) T.b_sorted (by decide +kernel) (pa_cons (pe_sealed1 (pe_sc1 (own := [("row", 1)]) (g := gName 1) (tt := tTest (tOp rEq (tOp (rIxT K) (tVar 1) (tC (.int 0))) (tC (.str "note")))) (te := tOp (rIxT K) (tVar 1) (tC (.int 2))) rfl scOps.nd (pi_tup (pe_fld (pv 0) rfl)) (blkOk_by (N := ["program", "row"]) (sc := defScope sOps) (by decide +kernel)) (fun _ _ _ _ _ => (pg_name (i := 1) scOps.nd rfl (Or.inl rfl))) (fun _ _ _ _ _ => (pts_one (pt_cmpR op_eq (pe_ix ix_tup (pv 1) pe_int (fun _ _ => rfl)) pe_str (nomark _)))) (fun _ _ _ _ _ => (pe_ix ix_tup (pv 1) pe_int (fun _ _ => rfl))))) pa_nil)) pa_nil)))), ?_⟩
    refine sc1_into ?_
    refine ⟨_, rfl, x, C, dx, _, _, rfl, hx, c.c, c.n2, rfl, ra, rfl, ⟨_, h1⟩, ?_⟩
    refine sc1_over (as := rowsB b) (pr := isNote) (f := opOf) it_tup hz (by show _ < 4096; omega) (fun H' _ pt => pt.sq h1) ?_ ?_
    · intro k0 z r hz0 hr0 H' sm pt R0 R1 kF kT
      obtain ⟨u, hu, tu⟩ := Tvs.get (i := k0) (d := dR r) h2 (by rw [List.getElem?_map, hr0]; rfl)
      rw [hz0] at hu
      cases hu
      obtain ⟨ga, tl, rfl, hrS, hrt⟩ := (tu.pt pt).rowI
      refine ⟨rfl, _, rfl, _, _, _, _, rfl, rfl, hrS, at0, rfl, _, rfl, ?_⟩
      cases r with
      | note y o ps =>
        obtain ⟨v1, v2, v3, rfl, t1, t2, t3⟩ := hrt.three
        cases t2.strI
        exact ifD rfl ⟨_, rfl, _, _, _, _, rfl, rfl, hrS, rfl, kT rfl⟩
      | copy y z => exact ifDF (neS (a := "copy") (b := "note") (by decide +kernel)) (kF rfl)
      | give y i => exact ifDF (neS (a := "give") (b := "note") (by decide +kernel)) (kF rfl)
      | ask y => exact ifDF (neS (a := "ask") (b := "note") (by decide +kernel)) (kF rfl)
      | prt y => exact ifDF (neS (a := "print") (b := "note") (by decide +kernel)) (kF rfl)
      | either y z => exact ifDF (neS (a := "either") (b := "note") (by decide +kernel)) (kF rfl)
      | again y => exact ifDF (neS (a := "again") (b := "note") (by decide +kernel)) (kF rfl)
    · intro D H' sm nD hD
      refine ⟨D, _, rfl, hD, ?_, fun zs p pm so np => ⟨p, _, rfl, .inl ⟨SqL.of upd_same, fun l nl => k l zs _ ((sm.trans (same_new np)).trans (same_new nl)) (lot_of pm so) upd_same⟩⟩⟩
      have e1 := (insAll_ok (((rowsB b).filter isNote).map opOf)).2.2
      have e2 := List.length_filter_le isNote (rowsB b)
      rw [List.length_map] at e1
      omega
def spFunctionsOf (K : PySem.W.Frag) : Sp := fun vs H Q _ => ∃ (t fa : Addr) (ys : List Str) (kvs : List (Key × V)) (g : Str → V), vs = [.ref t, .ref fa] ∧ SqT K H t (ys.map V.str) ∧ ys.Nodup ∧ ys.length ≤ 1000 ∧ H fa = some (.dK kvs) ∧ (∀ y ∈ ys, valV kvs (.inr y) = some (g y)) ∧
  ∀ q H', Same H H' → H q = none → H' q = some (.dK (ys.map fun y => (.inr y, g y))) → Q (.ref q) H'
theorem scFunctionsOf : FnScope ["wanted", "functions", "op"] ["wanted", "functions"] (defScope sFunctionsOf) := ⟨rfl, rfl, rfl, by decide +kernel, rfl, by decide +kernel, by decide +kernel⟩
theorem ok_functions_of {f : Addr} {fd : FuncData} (FD : FnP K "functions_of" sFunctionsOf f fd) (T : Bi mg) (bdi : mg "dict" = none) : FnOk P w K mg base CX0 1 f fd ["wanted", "functions"] (spFunctionsOf K) := by
  refine FD.ok scFunctionsOf (fun vs H Q E h => ?_) (fun cdv A0 outer s H vs Q E hr h => ?_)
  · obtain ⟨t, fa, ys, kvs, g, rfl, _⟩ := h
    rfl
  · obtain ⟨t, fa, ys, kvs, g, rfl, hT, nd, hl, hF, hg, k⟩ := h
    have hu := hu_of hr
    refine ⟨_, PSs.nox (pss_cons (ps_if (PW.pt (pw_or (pt_not (pt_val (pe_callB call_isi (by rfl) T.b_isinstance (by decide +kernel) (pa_cons (pv 1) (pa_cons (pe_bltn (v := .ty "dict") (by rfl) bdi (by decide +kernel) rfl) pa_nil))))) (pw_or1 (pt_not (pt_val (pe_callB (cr_all rfl) (by rfl) T.b_all (by decide +kernel) (pa_cons (pe_lcS (own := [("op", 2)]) (g := gName 2) (tt := tYes) (te := tDIn (tVar 2) (tVar 1)) (by rfl) scFunctionsOf.nd (pi_tup (pv 0)) (blkOk_by (N := ["wanted", "functions", "op"]) (sc := defScope sFunctionsOf) (by decide +kernel)) (fun _ _ _ _ _ => (pg_name (i := 2) scFunctionsOf.nd rfl (Or.inl rfl))) (fun _ _ _ _ _ => pts_nil) (fun _ _ _ _ _ => (pe_cmp (pc_din hu (pv 2) (pv 1))))) pa_nil))))))) (pss_one ps_never) pss_nil)
    (pss_one (ps_ret (pe_sealedD (pe_dc (own := [("op", 2)]) (g := gName 2) (tt := tYes) (tk := tVar 2) (tv := tDGet (tVar 1) (tVar 2)) rfl scFunctionsOf.nd (pi_tup (pv 0)) (blkOk_by (N := ["wanted", "functions", "op"]) (sc := defScope sFunctionsOf) (by decide +kernel)) (fun _ _ _ _ _ => (pg_name (i := 2) scFunctionsOf.nd rfl (Or.inl rfl))) (fun _ _ _ _ _ => pts_nil) (fun _ _ _ _ _ => (pv 2)) (fun _ _ _ _ _ => (pe_dget hu (pv 1) (pv 2) (fun _ _ => rfl)))))))), ?_⟩
    refine ⟨_, rfl, _, _, _, _, true, rfl, .ty "dict", .base (.dK hF), rfl, true, rfl, ?_⟩
    refine lc_into ⟨_, rfl, t, rfl, ⟨_, hT⟩, ?_⟩
    refine lc_overA (p := none) (as := ys) (zs := ys.map V.str) (Rel := fun _ _ y => y = .bl true) it_tup (by rw [List.length_map]) (fun _ _ _ _ _ h => h) (fun _ h => nomatch h) (by rw [List.length_map]; exact Nat.lt_of_le_of_lt hl (by decide)) (fun H' _ pt => pt.sq hT) ?_ ?_
    · intro i z y hz hy H' kq pt R kR
      rw [List.getElem?_map, hy] at hz
      cases hz
      have hgd := DGet.k (k := .inr y) (kq.same _ _ hF)
      rw [hg y (List.mem_of_getElem? hy)] at hgd
      exact ⟨rfl, _, rfl, _, rfl, fa, _, rfl, hgd, kR _ _ (Same.kq fun _ _ h => h) (Pt.refl _) rfl⟩
    intro D zs H1 kq pt nD hD all
    have eb := All2.map (f := fun _ : Str => V.bl true) all
    subst eb
    have hall : (ys.map fun _ => true).all id = true := by simp
    refine ⟨D, ys.map fun _ => true, rfl, SqL.of (by rw [hD, List.map_map]; rfl), ?_⟩
    rw [hall]
    refine ⟨_, rfl, ?_⟩
    have hT1 := pt.sq hT
    have hF1 := kq.same _ _ hF
    refine dc_into ⟨_, rfl, t, rfl, ⟨_, hT1⟩, ?_⟩
    rw [dcS]
    intro D2 nD2
    have nf2 : fa ≠ D2 := ne_of_none hF1 nD2
    refine dc_tup (K := K) (xs := ys.map V.str) (Qd := fun H' => Q (.ref D2) H') (fun i H' => Same H1 H' ∧ SqT K H' t (ys.map V.str) ∧ H' fa = some (.dK kvs) ∧ H' D2 = some (.dK ((ys.take i).map fun y => (.inr y, g y)))) ⟨same_new nD2, (same_new nD2).pt.sq hT1, (upd_ne nf2).trans hF1, by rw [List.take_zero]; exact upd_same⟩ (fun i H' _ h => h.2.1) ?_ ?_
    · rintro i z H' hz ⟨sm, hT', hF', hD'⟩
      obtain ⟨y, hy, e⟩ : ∃ y, ys[i]? = some y ∧ V.str y = z := by
        rw [List.getElem?_map] at hz
        cases ey : ys[i]? with
        | none => rw [ey] at hz; cases hz
        | some y => rw [ey] at hz; exact ⟨y, rfl, Option.some.inj hz⟩
      subst e
      have hi : i < ys.length := (List.getElem?_eq_some_iff.mp hy).1
      have hgd := DGet.k (k := .inr y) hF'
      rw [hg y (List.mem_of_getElem? hy)] at hgd
      have hnew : valV ((ys.take i).map fun y => ((.inr y : Key), g y)) (.inr y) = none := by
        cases e : valV ((ys.take i).map fun y => ((.inr y : Key), g y)) (.inr y) with
        | none => rfl
        | some v =>
          have := valV_in e
          rw [List.map_map] at this
          obtain ⟨z, hz2, e2⟩ := List.mem_map.mp this
          have e3 : z = y := by
            have : (Sum.inr z : Key) = .inr y := e2
            injection this
          subst e3
          obtain ⟨j, hj, ej⟩ := List.getElem_of_mem hz2
          have hj2 : j < i := by
            rw [List.length_take] at hj
            omega
          rw [List.getElem_take] at ej
          have hyy : ys[i] = z := (List.getElem?_eq_some_iff.mp hy).2
          have := (List.getElem_inj (h₀ := by omega) (h₁ := hi) nd).mp (ej.trans hyy.symm)
          omega
      refine ⟨rfl, _, rfl, _, rfl, _, rfl, fa, _, rfl, hgd, _, .inr y, rfl, hD', ?_, same_putN sm nD2, ?_, (upd_ne nf2).trans hF', ?_⟩
      · rw [List.length_map, List.length_take]
        exact Nat.lt_of_le_of_lt (Nat.le_trans (Nat.min_le_right _ _) hl) (by decide)
      · exact ((same_putN sm nD2).pt).sq hT1
      · rw [upd_same, putK_new _ hnew, List.take_succ, hy, List.map_append]
        rfl
    · rintro H' ⟨sm, _, _, hD'⟩
      rw [List.length_map, List.take_of_length_le (Nat.le_refl _)] at hD'
      exact k D2 H' (kq.same.trans sm) (kq.same.free nD2) hD'
def spPlaceBehind (K : PySem.W.Frag) (C : Addr) : Sp := fun vs H Q _ => ∃ (x : Addr) (b : List Rw) (i j n : Nat) (l : List Nat), vs = [.ref x, .int i, .int j] ∧ PrAt K C H x b ∧ (leadsP b)[i]? = some l ∧ l[j]? = some n ∧ Q (.int n) H
theorem scPlaceBehind : FnScope ["program", "place", "which", "after"] ["program", "place", "which"] (defScope sPlaceBehind) := ⟨rfl, rfl, rfl, by decide +kernel, rfl, by decide +kernel, by decide +kernel⟩
theorem ok_place_behind {C CN f : Addr} {fd : FuncData} (FD : FnP K "place_behind" sPlaceBehind f fd) (T : Bi mg) (C_nexts : CalX P w K mg base "nexts" 3 ["program", "place"] (spNexts K C CN)) (C_is_number_below : Cal P w K mg base "is_number_below" 2 ["limit", "thing"] (spBelow K)) : FnOk P w K mg base CX0 4 f fd ["program", "place", "which"] (spPlaceBehind K C) := by
  refine FD.ok scPlaceBehind (fun vs H Q E h => ?_) (fun cdv A0 outer s H vs Q E hr h => ?_)
  · obtain ⟨x, b, i, j, n, l, rfl, _⟩ := h
    rfl
  · obtain ⟨x, b, i, j, n, l, rfl, hP, hi, hj, k⟩ := h
    have hr2 := hr.mono (show 2 ≤ 3 by decide)
    refine ⟨_, PSs.nox (pss_cons (ps_set (i := 3) scPlaceBehind.nd rfl (Or.inl rfl) (pcalN C_nexts hr rfl (pa_cons (pv 0) (pa_cons (pv 1) pa_nil))))
    (pss_cons (ps_if (pt_not (pt_truth (pv 3) (by intro _; rfl))) (pss_one ps_never) pss_nil)
    (pss_cons (ps_if (pt_not (pt_val (pcal C_is_number_below hr2 rfl (pa_cons (pe_callB call_len_seq (by rfl) T.b_len (by decide +kernel) (pa_cons (pv 3) pa_nil)) (pa_cons (pv 2) pa_nil))))) (pss_one ps_never) pss_nil)
    (pss_one (ps_ret (pe_ix ix_tup (pv 3) (pv 2) (fun _ _ => rfl))))))), ?_⟩
    refine ⟨_, rfl, _, rfl, x, _, b, rfl, hP, .inl ⟨i, l, rfl, hi, fun y ty _ => ?_⟩⟩
    obtain ⟨a, xs, rfl, hS, ht⟩ := ty.tupI
    obtain rfl := ints_of ht
    have hjl : j < l.length := (List.getElem?_eq_some_iff.mp hj).1
    have hne : (!(natV l).isEmpty) = true := by
      cases l with
      | nil => cases hjl
      | cons _ _ => rfl
    refine ⟨_, rfl, true, .inr (.inl ⟨_, hS, hne.symm⟩), _, rfl, a, _, rfl, .inr hS, _, rfl, _, _, rfl, .inl ⟨_, rfl, _, rfl, ?_⟩⟩
    have hlen : (natV l).length = l.length := by
      unfold natV
      rw [List.length_map]
    rw [hlen, decide_eq_true (show (0 : Int) ≤ (j : Int) by omega), decide_eq_true (show (j : Int) < (l.length : Int) by omega)]
    refine ⟨_, rfl, _, rfl, a, _, _, _, rfl, rfl, hS, atI_nat (j := j) (show (natV l)[j]? = some (.int (n : Nat)) from ?_), k⟩
    unfold natV
    rw [List.getElem?_map, hj]
    rfl
end
end K24
set_option Elab.async false
set_option linter.all false
set_option maxRecDepth 100000
set_option maxHeartbeats 4000000
/-! Run.__init__, place, step, waiting. -/
namespace PM
open PySem PySem.Spec PyProof.Rows L2 ZX ZR
def fsR (fa px nx wa : Addr) : List (Str × V) := [("_functions", .ref fa), ("_program", .ref px), ("_notes", .ref nx), ("_way", .ref wa)]
/-- what the class of runs is told of -/
structure RnC (K : PySem.W.Frag) (C : Addr) : Prop where
  c : Cls K C
  n_functions : NoAttr K C "_functions"
  n_program : NoAttr K C "_program"
  n_notes : NoAttr K C "_notes"
  n_way : NoAttr K C "_way"
section
variable {P : Program} {w : World} {K : PySem.W.Frag} {mg : Str → Option Value} {base : Heap}
/-- a run of b at x, its notes at A, its way at wa -/
structure RnAt (fm : Fam P w K mg base) (CP CN CR : Addr) (F : List (Str × Addr)) (ns : List Str) (H : Hp) (x : Addr) (A : Ad) (S : NS) (l : fm.L) (px : Addr) (b : List Rw) (wa : Addr) (way : List Nat) : Prop where
  rx : ∃ dx, H x = some (.ins CR dx (fsR A.fa px A.x wa))
  pr : PrAt K CP H px b
  pd : PrD CP H px
  nt : NtAt fm CN F ns H A S l
  wy : H wa = some (.lst (natV way))
  nw : wa ∉ A.fa :: (A.own ++ fm.out)
  hF : ∀ o ∈ opsB b, o ∈ F.map (·.1)
  hns : ∀ x ∈ (rowsB b).flatMap namesR, x ∈ ns
  n63 : ns.length < 64
  lev : fm.lev ≤ 20
/-- what a run asks of the notes' methods -/
structure NtM (P : Program) (w : World) (K : PySem.W.Frag) (mg : Str → Option Value) (base : Heap) (CN : Addr) : Prop where
  do_ : ∀ (fm : Fam P w K mg base) F ns, ns.length < 64 → MCal P w K mg base CN "do" (fm.lev + 6) ["self", "row"] (K24.spNDo fm CN F ns)
  waiting : ∀ (fm : Fam P w K mg base) F ns, ns.length < 64 → MCal P w K mg base CN "waiting" 3 ["self"] (K24.spWaiting fm CN F ns)
  make : ∃ (f : Addr) (fd : FuncData), Mk K CN f ∧ FnOk P w K mg base CX0 2 f fd ["self", "functions"] (K24.spNInit CN) ∧ Binds K fd ["self", "functions"] [] ∧ mg "Notes" = some (.ref CN)
variable {fm : Fam P w K mg base} {CP CN CR : Addr} {F : List (Str × Addr)} {ns : List Str} {H H' : Hp} {x : Addr} {A : Ad} {S S' : NS} {l l' : fm.L} {px : Addr} {b : List Rw} {wa : Addr} {way : List Nat}
theorem natV_snoc (l : List Nat) (n : Nat) : natV (l ++ [n]) = natV l ++ [.int (n : Nat)] := by
  unfold natV
  rw [List.map_append]
  rfl
theorem opsB_mem {b : List Rw} {y o : Str} {ps : List Str} (h : Rw.note y o ps ∈ rowsB b) : o ∈ opsB b := List.mem_map.mpr ⟨_, List.mem_filter.mpr ⟨h, rfl⟩, rfl⟩
theorem RnAt.row (h : RnAt fm CP CN CR F ns H x A S l px b wa way) {r : Rw} (hr : r ∈ rowsB b) : K24.RwOk F ns r := by
  obtain ⟨dx, v, ra, na, la, rs, ls, ys, hx, tv, G, h1, h2, h3, h4, h5, ly⟩ := h.pr
  refine ⟨fun y o ps e => ?_, fun y hy => h.hns y (List.mem_flatMap.mpr ⟨r, hr, hy⟩)⟩
  subst e
  have := ok_names_B G.ok _ hr
  exact ⟨h.hF o (opsB_mem hr), Nat.le_of_succ_le_succ this⟩
theorem PrAt.fz {M : List Addr} (h : PrAt K CP H px b) (z : Fz M H H') (m : Mks M H) : PrAt K CP H' px b := by
  refine h.up (fun o e => ?_) (z.pt m)
  obtain ⟨dx, v, ra, na, la, rs, ls, ys, hx, _⟩ := h
  rw [hx] at e
  cases e
  exact z.keep _ _ (m.no hx fun z => by rcases z with ⟨_, z⟩ | ⟨_, z⟩ <;> cases z) hx
theorem PrD.fz {M : List Addr} (h : PrD CP H px) (z : Fz M H H') (m : Mks M H) : PrD CP H' px := by
  obtain ⟨dx, v, ra, na, la, ls, h1, h2, h3⟩ := h
  refine ⟨dx, v, ra, na, la, ls, z.keep _ _ (m.no h1 fun z => by rcases z with ⟨_, z⟩ | ⟨_, z⟩ <;> cases z) h1, z.keep _ _ (m.no h2 fun z => by rcases z with ⟨_, z⟩ | ⟨_, z⟩ <;> cases z) h2, fun u hu => (h3 u hu).keep fun a o xs e => z.keep _ _ (m.no e fun z => by rcases z with ⟨_, z⟩ | ⟨_, z⟩ <;> cases z) e⟩
theorem RnAt.mksR (h : RnAt fm CP CN CR F ns H x A S l px b wa way) : Mks (wa :: (A.own ++ fm.out)) H := fun b hb => by
  rcases List.mem_cons.mp hb with rfl | hb
  · exact .inl ⟨_, h.wy⟩
  · exact h.nt.mksO b hb
/-- a step -/
theorem RnAt.next (h : RnAt fm CP CN CR F ns H x A S l px b wa way) (z : Fz (A.own ++ fm.out) H H') (hN : NtAt fm CN F ns H' A S' l') (n : Nat) : Fz (wa :: (A.own ++ fm.out)) H (upd H' wa (.lst (natV way ++ [.int (n : Nat)]))) ∧ RnAt fm CP CN CR F ns (upd H' wa (.lst (natV way ++ [.int (n : Nat)]))) x A S' l' px b wa (way ++ [n]) := by
  obtain ⟨dx, hx⟩ := h.rx
  have nm := h.nt.mksO
  have hx' := z.keep _ _ (nm.no hx fun z => by rcases z with ⟨_, z⟩ | ⟨_, z⟩ <;> cases z) hx
  have nw := h.nw
  rw [List.mem_cons, not_or] at nw
  have hw' := z.keep _ _ nw.2 h.wy
  have m1 : Mks [wa] H' := fun c hc => by
    rw [List.mem_singleton.mp hc]
    exact .inl ⟨_, hw'⟩
  have z1 : Fz [wa] H' (upd H' wa (.lst (natV way ++ [.int (n : Nat)]))) := Fz.put m1 List.mem_cons_self (.inl ⟨_, rfl⟩)
  have nx : x ≠ wa := fun e => by
    rw [e, hw'] at hx'
    cases hx'
  have z2 := z.mono (M' := wa :: (A.own ++ fm.out)) (fun c hc => List.mem_cons_of_mem _ hc) h.mksR
  refine ⟨z2.trans (z1.mono (fun c hc => by rw [List.mem_singleton.mp hc]; exact List.mem_cons_self) z2.mks), ⟨dx, (upd_ne nx).trans hx'⟩, (h.pr.fz z nm).fz z1 m1, (h.pd.fz z nm).fz z1 m1, hN.put (.inl ⟨_, hw'⟩) (.inl ⟨_, rfl⟩) nw.1 (fun hm => nw.2 (List.mem_append_left _ hm)) (fun hm => nw.2 (List.mem_append_right _ hm)), by rw [upd_same, natV_snoc], h.nw, h.hF, h.hns, h.n63, h.lev⟩
end
end PM
namespace K24
open PySem PySem.Spec PyProof.Rows L2 ZX PM ZR
abbrev sRInit : Stmt := inClass (top 54) 0
abbrev sRStep : Stmt := inClass (top 54) 1
abbrev sRPlace : Stmt := inClass (top 54) 2
abbrev sRWaiting : Stmt := inClass (top 54) 6
section
variable {P : Program} {w : World} {K : PySem.W.Frag} {mg : Str → Option Value} {base : Heap} {CP CN CR : Addr}
def spRPlace (P : Program) (w : World) (K : PySem.W.Frag) (mg : Str → Option Value) (base : Heap) (CP CN CR : Addr) : Sp := fun vs H Q _ => ∃ (fm : Fam P w K mg base) (F : List (Str × Addr)) (ns : List Str) (x : Addr) (A : Ad) (S : NS) (l : fm.L) (px : Addr) (b : List Rw) (wa : Addr) (way : List Nat) (p : Nat), vs = [.ref x] ∧ RnAt fm CP CN CR F ns H x A S l px b wa (way ++ [p]) ∧ Q (.int (p : Nat)) H
theorem scRPlace : FnScope ["self"] ["self"] (defScope sRPlace) := ⟨rfl, rfl, rfl, by decide +kernel, rfl, by decide +kernel, by decide +kernel⟩
theorem ok_rplace {f : Addr} {fd : FuncData} (FD : FunD K "place" "Run.place" (defArgs sRPlace) (defBody sRPlace) (defScope sRPlace) [] [] f fd) (c : RnC K CR) : FnOk P w K mg base CX0 1 f fd ["self"] (spRPlace P w K mg base CP CN CR) := by
  refine FD.ok scRPlace (fun vs H Q E h => ?_) (fun cdv A0 outer s H vs Q E hr h => ?_)
  · obtain ⟨fm, F, ns, x, A, S, l, px, b, wa, way, p, rfl, _⟩ := h
    rfl
  · obtain ⟨fm, F, ns, x, A, S, l, px, b, wa, way, p, rfl, R, k⟩ := h
    obtain ⟨dx, hx⟩ := R.rx
    have hw := R.wy
    rw [natV_snoc] at hw
    refine ⟨_, PSs.nox (pss_one (ps_ret (pe_ix ix_list (pe_fld (pv 0) rfl) (pe_un un_neg pe_int) (fun _ _ => rfl)))), ?_⟩
    exact ⟨_, rfl, x, CR, dx, _, _, rfl, hx, c.c, c.n_way, rfl, 1, rfl, wa, _, -1, _, rfl, rfl, SqL.of hw, atI_last _ _, k⟩
def spRWaiting (P : Program) (w : World) (K : PySem.W.Frag) (mg : Str → Option Value) (base : Heap) (CP CN CR : Addr) : Sp := fun vs H Q _ => ∃ (fm : Fam P w K mg base) (F : List (Str × Addr)) (ns : List Str) (x : Addr) (A : Ad) (S : NS) (l : fm.L) (px : Addr) (b : List Rw) (wa : Addr) (way : List Nat), vs = [.ref x] ∧ RnAt fm CP CN CR F ns H x A S l px b wa way ∧
  ∀ q ms (is : List Int) H', Same H H' → SqT K H' q (is.map V.int) → MetS S ms → ms.Nodup → (∀ n ∈ ms, n < S.made.length) → is.Perm (ms.map fun (n : Nat) => (n : Int)) → is.Pairwise (· ≤ ·) → Q (.ref q) H'
theorem scRWaiting : FnScope ["self"] ["self"] (defScope sRWaiting) := ⟨rfl, rfl, rfl, by decide +kernel, rfl, by decide +kernel, by decide +kernel⟩
theorem ok_rwaiting {f : Addr} {fd : FuncData} (FD : FunD K "waiting" "Run.waiting" (defArgs sRWaiting) (defBody sRWaiting) (defScope sRWaiting) [] [] f fd) (c : RnC K CR) (M : NtM P w K mg base CN) : FnOk P w K mg base CX0 4 f fd ["self"] (spRWaiting P w K mg base CP CN CR) := by
  refine FD.ok scRWaiting (fun vs H Q E h => ?_) (fun cdv A0 outer s H vs Q E hr h => ?_)
  · obtain ⟨fm, F, ns, x, A, S, l, px, b, wa, way, rfl, _⟩ := h
    rfl
  · obtain ⟨fm, F, ns, x, A, S, l, px, b, wa, way, rfl, R, k⟩ := h
    obtain ⟨dx, hx⟩ := R.rx
    refine ⟨_, PSs.nox (pss_one (ps_ret (pmc0 (M.waiting fm F ns R.n63) hr (pe_fld (pv 0) rfl)))), ?_⟩
    exact ⟨_, rfl, x, CR, dx, _, _, rfl, hx, c.c, c.n_notes, rfl, A.x, A.dx, _, rfl, R.nt.hx, rfl, A, S, l, rfl, R.nt, k⟩
def spRStep (P : Program) (w : World) (K : PySem.W.Frag) (mg : Str → Option Value) (base : Heap) (CP CN CR : Addr) : Sp := fun vs H Q _ => ∃ (fm : Fam P w K mg base) (F : List (Str × Addr)) (ns : List Str) (x : Addr) (A : Ad) (S : NS) (l : fm.L) (px : Addr) (b : List Rw) (wa : Addr) (way : List Nat) (p j n : Nat) (ls : List Nat) (r : Rw), vs = [.ref x, .int (j : Nat)] ∧
  RnAt fm CP CN CR F ns H x A S l px b wa (way ++ [p]) ∧ (leadsP b)[p]? = some ls ∧ ls[j]? = some n ∧ (rowsB b)[p]? = some r ∧ S.made.length < 50000 ∧ S.printed.length < 50000 ∧ S.trail.length < 50000 ∧ way.length < 50000 ∧
  ∀ S' l' H', Fz (wa :: (A.own ++ fm.out)) H H' → RnAt fm CP CN CR F ns H' x A { S' with trail := S.trail ++ [markS S r] } l' px b wa (way ++ [p] ++ [n]) → DoS fm S l r S' l' → Q .non H'
theorem scRStep : FnScope ["self", "which", "behind"] ["self", "which"] (defScope sRStep) := ⟨rfl, rfl, rfl, by decide +kernel, rfl, by decide +kernel, by decide +kernel⟩
theorem ok_rstep {CE f : Addr} {fd : FuncData} (FD : FunD K "step" "Run.step" (defArgs sRStep) (defBody sRStep) (defScope sRStep) [] [] f fd) (c : RnC K CR) (M : NtM P w K mg base CN) (C_place_behind : Cal P w K mg base "place_behind" 4 ["program", "place", "which"] (spPlaceBehind K CP)) (C_row_at : CalX P w K mg base "row_at" 3 ["program", "place"] (spRowAt K CP CE)) : FnOk P w K mg base CX0 27 f fd ["self", "which"] (spRStep P w K mg base CP CN CR) := by
  refine FD.ok scRStep (fun vs H Q E h => ?_) (fun cdv A0 outer s H vs Q E hr h => ?_)
  · obtain ⟨fm, F, ns, x, A, S, l, px, b, wa, way, p, j, n, ls, r, rfl, _⟩ := h
    rfl
  · obtain ⟨fm, F, ns, x, A, S, l, px, b, wa, way, p, j, n, ls, r, rfl, R, hls, hj, hrow, hzm, hzp, hzt, hzw, k⟩ := h
    obtain ⟨dx, hx⟩ := R.rx
    have hw := R.wy
    rw [natV_snoc] at hw
    have hlev := R.lev
    have hr4 := hr.mono (show 4 ≤ 26 by decide)
    have hr3 := hr.mono (show 3 ≤ 26 by decide)
    have hrd := hr.mono (show fm.lev + 6 ≤ 26 by omega)
    refine ⟨_, PSs.nox (pss_cons (ps_set (i := 2) scRStep.nd rfl (Or.inl rfl) (pcal C_place_behind hr4 rfl (pa_cons (pe_fld (pv 0) rfl) (pa_cons (pe_ix ix_list (pe_fld (pv 0) rfl) (pe_un un_neg pe_int) (fun _ _ => rfl)) (pa_cons (pv 1) pa_nil)))))
    (pss_cons (ps_expr (pmc (M.do_ fm F ns R.n63) hrd (pe_fld (pv 0) rfl) (pa_cons (pcalN C_row_at hr3 rfl (pa_cons (pe_fld (pv 0) rfl) (pa_cons (pe_ix ix_list (pe_fld (pv 0) rfl) (pe_un un_neg pe_int) (fun _ _ => rfl)) pa_nil))) pa_nil)))
    (pss_one (ps_expr (pe_bm PySem.F.plainAttrs_list PySem.F.slot_list_append PySem.F.type_list_append mt_append (pe_fld (pv 0) rfl) (pa_cons (pv 2) pa_nil)))))), ?_⟩
    refine ⟨_, rfl, x, CR, dx, _, _, rfl, hx, c.c, c.n_program, rfl, _, rfl, x, CR, dx, _, _, rfl, hx, c.c, c.n_way, rfl, 1, rfl, wa, _, -1, _, rfl, rfl, SqL.of hw, atI_last _ _, _, rfl, px, b, p, j, n, ls, rfl, R.pr, hls, hj, ?_⟩
    refine ⟨_, rfl, x, CR, dx, _, _, rfl, hx, c.c, c.n_notes, rfl, A.x, A.dx, _, rfl, R.nt.hx, rfl, _, rfl, x, CR, dx, _, _, rfl, hx, c.c, c.n_program, rfl, _, rfl, x, CR, dx, _, _, rfl, hx, c.c, c.n_way, rfl, 1, rfl, wa, _, -1, _, rfl, rfl, SqL.of hw, atI_last _ _, px, _, b, rfl, R.pr, .inl ⟨p, r, rfl, hrow, fun y ty => ?_⟩⟩
    refine ⟨A, S, l, y, r, rfl, R.nt, ty, R.row (List.mem_of_getElem? hrow), hzm, hzp, hzt, fun S' l' H' z hN' hD => ?_⟩
    obtain ⟨z2, R2⟩ := R.next z hN' n
    have hx2 := z.keep _ _ (R.nt.mksO.no hx fun z => by rcases z with ⟨_, z⟩ | ⟨_, z⟩ <;> cases z) hx
    have nw := R.nw
    rw [List.mem_cons, not_or] at nw
    have hw2 := z.keep _ _ nw.2 R.wy
    refine ⟨_, rfl, x, CR, dx, _, _, rfl, hx2, c.c, c.n_way, rfl, .inl ⟨rfl, _, SqL.of hw2⟩, _, rfl, wa, _, _, rfl, rfl, hw2, ?_, k S' l' _ z2 R2 hD⟩
    unfold natV
    rw [List.length_map, List.length_append]
    exact Nat.lt_of_le_of_lt hzw (by decide)
def spRInit (P : Program) (w : World) (K : PySem.W.Frag) (mg : Str → Option Value) (base : Heap) (CP CN CR : Addr) : Sp := fun vs H Q _ => ∃ (fm : Fam P w K mg base) (ns : List Str) (x dx px fa : Addr) (l : fm.L) (b : List Rw) (H0 : Hp) (kvs : List (Key × V)) (g : Str → Addr), vs = [.ref x, .ref px, .ref fa] ∧
  H x = some (.ins CR dx []) ∧ H0 x = none ∧ Same H0 H ∧ PrAt K CP H0 px b ∧ PrD CP H0 px ∧ H0 fa = some (.dK kvs) ∧ (∀ o ∈ opsB b, valV kvs (.inr o) = some (.ref (g o)) ∧ fm.Fn o (g o) H0) ∧ fm.At l H0 ∧ Mks fm.out H0 ∧ fm.out.Nodup ∧ (∀ x ∈ (rowsB b).flatMap namesR, x ∈ ns) ∧ ns.length < 64 ∧ fm.lev ≤ 20 ∧
  ∀ A F wa H', Same H0 H' → RnAt fm CP CN CR F ns H' x A NS0 l px b wa [0] → (∀ c ∈ wa :: A.own, H0 c = none) → Q .non H'
theorem scRInit : FnScope ["self", "program", "functions"] ["self", "program", "functions"] (defScope sRInit) := ⟨rfl, rfl, rfl, by decide +kernel, rfl, by decide +kernel, by decide +kernel⟩
theorem ok_rinit {f : Addr} {fd : FuncData} (FD : FunD K "__init__" "Run.__init__" (defArgs sRInit) (defBody sRInit) (defScope sRInit) [] [] f fd) (c : RnC K CR) (M : NtM P w K mg base CN) (C_ops : Cal P w K mg base "ops" 1 ["program"] (spOps K CP)) (C_functions_of : Cal P w K mg base "functions_of" 1 ["wanted", "functions"] (spFunctionsOf K)) : FnOk P w K mg base CX0 4 f fd ["self", "program", "functions"] (spRInit P w K mg base CP CN CR) := by
  refine FD.ok scRInit (fun vs H Q E h => ?_) (fun cdv A0 outer s H vs Q E hr h => ?_)
  · obtain ⟨fm, ns, x, dx, px, fa, l, b, H0, kvs, g, rfl, _⟩ := h
    rfl
  · obtain ⟨fm, ns, x, dx, px, fa, l, b, H0, kvs, g, rfl, hx, nx0, s0, hP, hPD, hfa, hg, hat, hmo, hon, hns, h63, hlev, k⟩ := h
    obtain ⟨fN, fdN, mk, G, bN, gN⟩ := M.make
    have hr1 := hr.mono (show 1 ≤ 3 by decide)
    refine ⟨_, PSs.nox (pss_cons (ps_fld (pv 0) (pcal C_functions_of hr1 rfl (pa_cons (pcal C_ops hr1 rfl (pa_cons (pv 1) pa_nil)) (pa_cons (pv 2) pa_nil))) rfl)
    (pss_cons (ps_fld (pv 0) (pv 1) rfl)
    (pss_cons (ps_fld (pv 0) (pe_make mk G hr rfl gN bN .nil pass0 (pa_cons (pe_fld (pv 0) rfl) pa_nil)) rfl)
    (pss_one (ps_fld (pv 0) (pe_lst (pa_cons pe_int pa_nil)) rfl))))), ?_⟩
    refine ⟨_, rfl, px, b, rfl, hP.same s0, fun t ys H1 s1 ly ht => ?_⟩
    have hylen : ys.length ≤ 1000 := by
      obtain ⟨_, _, _, _, _, _, _, _, _, _, Gd, _⟩ := hP
      have h1 := ly.le (W := opsB b) fun x hx => hx
      have h2 : (opsB b).length ≤ (rowsB b).length := by
        unfold opsB
        rw [List.length_map]
        exact List.length_filter_le _ _
      have := Gd.l30
      omega
    refine ⟨_, rfl, t, fa, ys, kvs, fun o => .ref (g o), rfl, .inl (.inl ht), ly.nd, hylen, s1 _ _ (s0 _ _ hfa), fun y hy => (hg y ((ly.me y).mp hy)).1, fun q H2 s2 nq hq => ?_⟩
    have s02 := (s0.trans s1).trans s2
    have hx2 := s2 _ _ (s1 _ _ hx)
    have nqx : q ≠ x := fun e => by
      rw [e, s1 _ _ hx] at nq
      cases nq
    have nq0 : H0 q = none := s0.free (s1.free nq)
    have xk : ∀ {Ha Hb : Hp} {o : HO}, Same H0 Ha → Same H0 (upd Ha x o) := fun sa => same_putN sa nx0
    refine ⟨_, rfl, x, CR, dx, _, rfl, hx2, c.c, c.n_functions, (by show 0 < 1000; decide), ?_⟩
    have s3 : Same H0 (upd H2 x (.ins CR dx [("_functions", V.ref q)])) := same_putN s02 nx0
    have hx3 : upd H2 x (.ins CR dx [("_functions", V.ref q)]) x = some (.ins CR dx [("_functions", V.ref q)]) := upd_same
    have hq3 : upd H2 x (.ins CR dx [("_functions", V.ref q)]) q = _ := (upd_ne nqx).trans hq
    refine ⟨_, rfl, _, rfl, x, CR, dx, _, rfl, hx3, c.c, c.n_program, (by show 1 < 1000; decide), ?_⟩
    have hx4 : (upd (upd H2 x (.ins CR dx [("_functions", V.ref q)])) x (.ins CR dx [("_functions", .ref q), ("_program", .ref px)])) x = some (.ins CR dx [("_functions", .ref q), ("_program", .ref px)]) := upd_same
    have s4 : Same H0 (upd (upd H2 x (.ins CR dx [("_functions", V.ref q)])) x (.ins CR dx [("_functions", .ref q), ("_program", .ref px)])) := same_putN s3 nx0
    have hq4 : (upd (upd H2 x (.ins CR dx [("_functions", V.ref q)])) x (.ins CR dx [("_functions", .ref q), ("_program", .ref px)])) q = some (.dK (ys.map fun y => (.inr y, .ref (g y)))) := (upd_ne nqx).trans hq3
    refine ⟨_, rfl, x, CR, dx, _, _, rfl, hx4, c.c, c.n_functions, rfl, fun nx ndx hnx hndx hne => ⟨nx, ndx, q, rfl, upd_same, fun ha ma wa oa pa ta H6 kp6 hx6 n6 hta nta dta => ⟨rfl, ?_⟩⟩⟩
    have hnx : (upd (upd H2 x (.ins CR dx [("_functions", V.ref q)])) x (.ins CR dx [("_functions", .ref q), ("_program", .ref px)])) nx = none := hnx
    have hndx : (upd (upd H2 x (.ins CR dx [("_functions", V.ref q)])) x (.ins CR dx [("_functions", .ref q), ("_program", .ref px)])) ndx = none := hndx
    have s45 : Same (upd (upd H2 x (.ins CR dx [("_functions", V.ref q)])) x (.ins CR dx [("_functions", .ref q), ("_program", .ref px)])) (upd (upd (upd (upd H2 x (.ins CR dx [("_functions", V.ref q)])) x (.ins CR dx [("_functions", .ref q), ("_program", .ref px)])) ndx (.own nx)) nx (.ins CN ndx [])) := same_putN (same_new hndx) hnx
    have s46 : Same (upd (upd H2 x (.ins CR dx [("_functions", V.ref q)])) x (.ins CR dx [("_functions", .ref q), ("_program", .ref px)])) H6 := fun b u e => kp6 b u (ne_of_none e hnx) (s45 b u e)
    have hx6' := s46 _ _ hx4
    refine ⟨_, rfl, x, CR, dx, _, rfl, hx6', c.c, c.n_notes, (by show 2 < 1000; decide), ?_⟩
    refine ⟨by decide, fun wq nwq => ?_⟩
    obtain ⟨k8, x8, a8, e8, z8, m8⟩ := ini_step (x := x) (C := CR) (dx := dx) (fs' := fsR q px nx wq) (o := .lst [.int 0]) (H := H6) (H1 := upd H6 x (.ins CR dx [("_functions", .ref q), ("_program", .ref px), ("_notes", .ref nx)])) (fun b u n e => (upd_ne n).trans e) upd_same nwq
    refine ⟨_, rfl, x, CR, dx, _, rfl, (upd_ne e8.symm).trans upd_same, c.c, c.n_way, (by show 3 < 1000; decide), ?_⟩
    show Q .non (upd (upd (upd H6 x (.ins CR dx [("_functions", .ref q), ("_program", .ref px), ("_notes", .ref nx)])) wq (.lst [.int 0])) x (.ins CR dx (fsR q px nx wq)))
    generalize upd (upd (upd H6 x (.ins CR dx [("_functions", .ref q), ("_program", .ref px), ("_notes", .ref nx)])) wq (.lst [.int 0])) x (.ins CR dx (fsR q px nx wq)) = H9 at k8 x8 a8 m8
    have s9 : Same H0 H9 := fun b u e => k8 b u (ne_of_none e nx0) (s46 b u (s4 b u e))
    have n5x : ∀ {b : Addr}, (upd (upd (upd (upd H2 x (.ins CR dx [("_functions", V.ref q)])) x (.ins CR dx [("_functions", .ref q), ("_program", .ref px)])) ndx (.own nx)) nx (.ins CN ndx [])) b = none → b ≠ x := fun n e => by
      rw [e, s45 _ _ hx4] at n
      cases n
    have nxx : nx ≠ x := fun e => by
      rw [e, hx4] at hnx
      cases hnx
    have n50 : ∀ {b : Addr}, (upd (upd (upd (upd H2 x (.ins CR dx [("_functions", V.ref q)])) x (.ins CR dx [("_functions", .ref q), ("_program", .ref px)])) ndx (.own nx)) nx (.ins CN ndx [])) b = none → H0 b = none := fun n => s4.free (s45.free n)
    have hq9 := k8 _ _ nqx (s46 _ _ hq4)
    have eF : (ys.map fun y => ((.inr y : Key), V.ref (g y))) = (ys.map fun y => (y, g y)).map fun p => ((.inr p.1 : Key), V.ref p.2) := by
      rw [List.map_map]
      rfl
    rw [eF] at hq9
    have z9 := s9.fz (M := []) mks_nil
    have hN : NtAt fm CN (ys.map fun y => (y, g y)) ns H9 ⟨nx, ndx, q, ha, ma, wa, oa, pa, ta⟩ NS0 l := by
      refine NtAt.init (H := upd (upd (upd (upd H2 x (.ins CR dx [("_functions", V.ref q)])) x (.ins CR dx [("_functions", .ref q), ("_program", .ref px)])) ndx (.own nx)) nx (.ins CN ndx [])) (k8 _ _ nxx hx6) ⟨k8 _ _ (n5x n6.n1) n6.h1, k8 _ _ (n5x n6.n2) n6.h2, k8 _ _ (n5x n6.n3) n6.h3, k8 _ _ (n5x n6.n4) n6.h4, k8 _ _ (n5x n6.n5) n6.h5, n6.n1, n6.n2, n6.n3, n6.n4, n6.n5, n6.nd⟩ (k8 _ _ (n5x nta) hta) nta dta ⟨_, s45 _ _ hq4⟩ hq9 (fun p hp => ?_) (hmo.same (s4.trans s45)) (hmo.same s9) (fun hm => ?_) hon (fm.atK hat mks_nil z9 (fun _ _ m => nomatch m))
      · obtain ⟨y, hy, rfl⟩ := List.mem_map.mp hp
        exact fm.fnK (hg y ((ly.me y).mp hy)).2 mks_nil z9
      · rcases hmo q hm with ⟨_, e⟩ | ⟨_, e⟩ <;> rw [nq0] at e <;> cases e
    have hw9 : H9 wq = some (.lst (natV [0])) := a8
    have nwq6 : H6 wq = none := z8
    have hfr : ∀ c ∈ wq :: Ad.own ⟨nx, ndx, q, ha, ma, wa, oa, pa, ta⟩, H0 c = none := fun c hc => by
      simp only [Ad.own, List.mem_cons, List.not_mem_nil, or_false] at hc
      rcases hc with rfl | rfl | rfl | rfl | rfl | rfl | rfl
      · exact s4.free (s46.free nwq6)
      · exact n50 n6.n1
      · exact n50 n6.n2
      · exact n50 n6.n3
      · exact n50 n6.n4
      · exact n50 n6.n5
      · exact n50 nta
    refine k _ _ wq H9 s9 ⟨⟨dx, x8⟩, hP.same s9, hPD.same s9, hN, hw9, ?_, fun o ho => ?_, hns, h63, hlev⟩ hfr
    · have h6 : ∀ {b : Addr} {u : HO}, H6 b = some u → wq ≠ b := fun e z => by
        rw [← z, nwq6] at e
        cases e
      rw [List.mem_cons, List.mem_append, not_or, not_or]
      refine ⟨h6 (s46 _ _ hq4), fun hm => ?_, fun hm => ?_⟩
      · simp only [Ad.own, List.mem_cons, List.not_mem_nil, or_false] at hm
        rcases hm with e | e | e | e | e | e
        · exact h6 n6.h1 e
        · exact h6 n6.h2 e
        · exact h6 n6.h3 e
        · exact h6 n6.h4 e
        · exact h6 n6.h5 e
        · exact h6 hta e
      · rcases hmo wq hm with ⟨_, e⟩ | ⟨_, e⟩ <;> rw [hfr wq List.mem_cons_self] at e <;> cases e
    · rw [List.map_map]
      exact List.mem_map.mpr ⟨o, (ly.me o).mpr ho, rfl⟩
end
end K24
set_option Elab.async false
set_option linter.all false
set_option maxRecDepth 100000
set_option maxHeartbeats 4000000
namespace K24
open PySem PySem.Spec PyProof.Rows L2 ZX PM ZR
abbrev sHand : Stmt := top 58
abbrev sDraw : Stmt := top 59
abbrev sAny : Stmt := top 60
/-- what the hand of draws holds, by its texts -/
def handK (c : Addr) (i g k d : Int) : List (Key × V) := [(.inr "cells", .ref c), (.inr "at", .int i), (.inr "great", .int g), (.inr "seed", .int k), (.inr "turn", .int d)]
/-- the hand of draws at p -/
structure HandIs (H : Hp) (p c : Addr) (cs : List Int) (i g k d : Int) : Prop where
  hp : H p = some (.dK (handK c i g k d))
  hc : H c = some (.lst (cs.map V.int))
  ne : c ≠ p
  nn : ∀ x ∈ cs, 0 ≤ x
  i0 : 0 ≤ i
  g0 : 0 ≤ g
  k0 : 0 ≤ k
  d0 : 0 ≤ d
def HandAt (H : Hp) (p c : Addr) : Prop := ∃ cs i g k d, HandIs H p c cs i g k d
theorem HandIs.put {H : Hp} {p c : Addr} {cs : List Int} {i g k d i' g' k' d' : Int} (h : HandIs H p c cs i g k d) (hi : 0 ≤ i') (hg : 0 ≤ g') (hk : 0 ≤ k') (hd : 0 ≤ d') :
    HandIs (upd H p (.dK (handK c i' g' k' d'))) p c cs i' g' k' d' :=
  ⟨upd_same, by rw [upd_ne h.ne]; exact h.hc, h.ne, h.nn, hi, hg, hk, hd⟩
section
variable {H : Hp} {p c : Addr} {cs : List Int} {i g k d : Int}
theorem HandIs.gC (h : HandIs H p c cs i g k d) : DGet H p (.str "cells") (some (.ref c)) := DGet.k (k := .inr "cells") h.hp
theorem HandIs.gA (h : HandIs H p c cs i g k d) : DGet H p (.str "at") (some (.int i)) := DGet.k (k := .inr "at") h.hp
theorem HandIs.gG (h : HandIs H p c cs i g k d) : DGet H p (.str "great") (some (.int g)) := DGet.k (k := .inr "great") h.hp
theorem HandIs.gS (h : HandIs H p c cs i g k d) : DGet H p (.str "seed") (some (.int k)) := DGet.k (k := .inr "seed") h.hp
theorem HandIs.gT (h : HandIs H p c cs i g k d) : DGet H p (.str "turn") (some (.int d)) := DGet.k (k := .inr "turn") h.hp
theorem HandIs.pA (h : HandIs H p c cs i g k d) (j : Int) : DPut H p (.str "at") (.int j) (upd H p (.dK (handK c j g k d))) := DPut.k (k := .inr "at") h.hp (by show 5 < sizeLine; decide)
theorem HandIs.pG (h : HandIs H p c cs i g k d) (j : Int) : DPut H p (.str "great") (.int j) (upd H p (.dK (handK c i j k d))) := DPut.k (k := .inr "great") h.hp (by show 5 < sizeLine; decide)
theorem HandIs.pS (h : HandIs H p c cs i g k d) (j : Int) : DPut H p (.str "seed") (.int j) (upd H p (.dK (handK c i g j d))) := DPut.k (k := .inr "seed") h.hp (by show 5 < sizeLine; decide)
theorem HandIs.pT (h : HandIs H p c cs i g k d) (j : Int) : DPut H p (.str "turn") (.int j) (upd H p (.dK (handK c i g k j))) := DPut.k (k := .inr "turn") h.hp (by show 5 < sizeLine; decide)
end
theorem HandAt.kp {H H' : Hp} {p c : Addr} (h : HandAt H p c) (k : ∀ b o, H b = some o → H' b = some o) : HandAt H' p c := by
  obtain ⟨cs, i, g, kk, d, h⟩ := h
  exact ⟨cs, i, g, kk, d, k _ _ h.hp, k _ _ h.hc, h.ne, h.nn, h.i0, h.g0, h.k0, h.d0⟩
theorem HandAt.new {H : Hp} {p c a : Addr} {o : HO} (h : HandAt H p c) (n : H a = none) : HandAt (upd H a o) p c := h.kp fun b u e => by
  rw [upd_ne (ne_of_none e n)]
  exact e
theorem HandAt.some {H : Hp} {p c : Addr} (h : HandAt H p c) : ∃ o, H p = some o := by
  obtain ⟨cs, i, g, kk, d, h⟩ := h
  exact ⟨_, h.hp⟩
/-! ### promises -/
def spHand (K : PySem.W.Frag) : Sp := fun vs H Q _ => ∃ (a : Addr) (ns : List Int), vs = [.ref a] ∧ SqL K H a (ns.map V.int) ∧ ns.length ≤ 63 ∧ ∀ (p c : Addr) (H' : Hp), HandAt H' p c → Same H H' → H p = none → Q (.ref p) H'
def spDraw : Sp := fun vs H Q _ => ∃ (p c : Addr) (m : Int), vs = [.ref p, .int m] ∧ HandAt H p c ∧ 0 < m ∧ m < 1073741824 ∧ ∀ (d : Int) (H' : Hp), 0 ≤ d → d < m → HandAt H' p c → Ch p H H' → Q (.int d) H'
section
variable {P : Program} {w : World} {K : PySem.W.Frag} {mg : Str → Option Value} {base : Heap}
theorem scHand : FnScope ["_law_script", "_law_cells", "_law_cell"] ["_law_script"] (defScope sHand) := ⟨rfl, rfl, rfl, by decide +kernel, rfl, by decide +kernel, by decide +kernel⟩
theorem ok_hand {f : Addr} {fd : FuncData} (F : FnP K "_law_hand" sHand f fd) (T : Bi mg) : FnOk P w K mg base CX0 1 f fd ["_law_script"] (spHand K) := by
  refine F.ok scHand (fun vs H Q E h => ?_) (fun cdv A outer s H vs Q E hr h => ?_)
  · obtain ⟨a, ns, rfl, _⟩ := h
    rfl
  · obtain ⟨a, ns, rfl, hS, hl, k⟩ := h
    refine ⟨_, PSs.nox (pss_cut (ps_setLc (i := 1) (own := [("_law_cell", 2)]) (g := gName 2) (tt := tYes) rfl scHand.nd rfl rfl (sw_true rfl rfl rfl (by decide +kernel)) (pi_list (pe_slice sl_list (pv 0) po_none (po_some pe_int))) (blkOk_by (N := ["_law_script", "_law_cells", "_law_cell"]) (sc := defScope sHand) (by decide +kernel)) (fun _ _ _ _ _ => (pg_name (i := 2) scHand.nd rfl (Or.inl rfl))) (fun _ _ _ _ _ => pts_nil) (fun _ _ _ _ _ => (pe_callB call_abs (by rfl) T.b_abs (by decide +kernel) (pa_cons (pe_callTy call_int1 (by rfl) T.b_int (by decide +kernel) (pa_cons (pv 2) pa_nil)) pa_nil))))
    (pss_one (ps_ret (pe_disp (pps_cons pe_str (pv 1) (pps_cons pe_str pe_int (pps_cons pe_str pe_int (pps_cons pe_str (pe_op op_add pe_int (pe_callB call_len_seq (by rfl) T.b_len (by decide +kernel) (pa_cons (pv 1) pa_nil))) (pps_cons pe_str pe_int pps_nil))))) (by rfl) (by rfl) (fun z => by cases z) (by decide))))), ?_⟩
    refine ⟨fun σ' H' => ∃ (c : Addr) (cs : List Int), σ' = [some (.ref a), some (.ref c), none] ∧ Same H H' ∧ H c = none ∧ H' c = some (.lst (cs.map V.int)) ∧ ∀ x ∈ cs, 0 ≤ x, ?_, ?_⟩
    · -- the comprehension
      refine ⟨_, rfl, _, rfl, a, _, rfl, hS, fun p np => ?_⟩
      have hlen : (cutV (ns.map V.int) none (some 63)) = ns.map V.int := by
        unfold cutV
        rw [List.length_map]
        have h1 : HT.sIx ns.length 0 none = 0 := rfl
        have h2 : HT.sIx ns.length ns.length (some 63) = min 63 ns.length := HT.sIx_nat _ _ 63
        rw [h1, h2, List.drop_zero, Nat.sub_zero, Nat.min_eq_right hl]
        exact List.take_of_length_le (by rw [List.length_map]; exact Nat.le_refl _)
      rw [hlen]
      refine ⟨p, rfl, ⟨_, SqL.of upd_same⟩, fun D hD => ?_⟩
      have npD : p ≠ D := ne_of_none (upd_same (H := H) (a := p)) hD
      have nH : H D = none := by
        rw [upd_ne npD.symm] at hD
        exact hD
      refine lc_list (K := K) (xs := ns.map V.int) (fun i H' => ∃ cs : List Int, H' = upd (upd H p (.lst (ns.map V.int))) D (.lst (cs.map V.int)) ∧ cs.length = i ∧ ∀ x ∈ cs, 0 ≤ x) ⟨[], rfl, rfl, fun x hx => nomatch hx⟩ ?_ ?_ ?_
      · rintro i H' _ ⟨cs, rfl, _⟩
        exact SqL.of (by rw [upd_ne npD, upd_same])
      · rintro i x H' hx ⟨cs, rfl, hi, hc⟩
        obtain ⟨z, rfl⟩ : ∃ z, x = V.int z := by
          rw [List.getElem?_map] at hx
          cases e : ns[i]? with
          | none => rw [e] at hx; cases hx
          | some z => rw [e] at hx; exact ⟨z, (Option.some.inj hx).symm⟩
        have hil : i < (ns.map V.int).length := (List.getElem?_eq_some_iff.mp hx).1
        rw [List.length_map] at hil
        refine ⟨rfl, _, rfl, .inl ⟨_, rfl, _, rfl, cs.map V.int, upd_same, Nat.lt_of_le_of_lt (by rw [List.length_map, hi]; omega) (show 63 < sizeLine by decide), cs ++ [if z < 0 then -z else z], ?_, by rw [List.length_append, hi]; rfl, fun x hx => ?_⟩⟩
        · rw [upd_upd, List.map_append]
          rfl
        · rcases List.mem_append.mp hx with h | h
          · exact hc x h
          · rw [List.mem_singleton.mp h]
            split <;> omega
      · rintro H' ⟨cs, rfl, _, hc⟩
        refine ⟨D, cs, rfl, fun b o e => ?_, nH, upd_same, hc⟩
        rw [upd_ne (ne_of_none e nH), upd_ne (ne_of_none e np)]
        exact e
    · rintro σ' H' ⟨c, cs, rfl, s1, n1, hc, hcn⟩
      refine fun p np => ?_
      have ncp : c ≠ p := ne_of_none hc np
      refine ⟨_, rfl, _, rfl, c, _, rfl, .inl (SqL.of (by rw [upd_ne ncp]; exact hc)), _, _, rfl, rfl, upd_same, handK c 0 0 (977 + (cs.map V.int).length) 0, rfl, by show 5 ≤ 15; decide, ?_⟩
      have eu : upd (upd H' p (.dK [])) p (.dK (mergeK [] (handK c 0 0 (977 + (cs.map V.int).length) 0))) = upd H' p (.dK (handK c 0 0 (977 + (cs.map V.int).length) 0)) := upd_upd
      rw [eu]
      refine k p c _ ⟨cs, 0, 0, _, 0, upd_same, by rw [upd_ne ncp]; exact hc, ncp, hcn, by omega, by omega, by omega, by omega⟩ (fun b o e => ?_) (s1.free np)
      rw [upd_ne (ne_of_none (s1 b o e) np)]
      exact s1 b o e
end

section
variable {P : Program} {w : World} {K : PySem.W.Frag} {mg : Str → Option Value} {base : Heap}
theorem scDraw : FnScope ["_law_hand_here", "_law_many", "_law_cell", "_law_digit", "_law_number"] ["_law_hand_here", "_law_many"] (defScope sDraw) := ⟨rfl, rfl, rfl, by decide +kernel, rfl, by decide +kernel, by decide +kernel⟩
/-- what holds in draw between its statements -/
def DrawMid (p c : Addr) (m : Int) (H0 : Hp) (σ : L2.St) (H : Hp) : Prop := ∃ (cs : List Int) (i g k d : Int) (x y z : Option V), σ = [some (.ref p), some (.int m), x, y, z] ∧ HandIs H p c cs i g k d ∧ Ch p H0 H
/-- .. behind its last numbers -/
def DrawNum (p c : Addr) (m : Int) (H0 : Hp) (σ : L2.St) (H : Hp) : Prop := ∃ (x y : Option V) (n : Int), σ = [some (.ref p), some (.int m), x, y, some (.int n)] ∧ HandAt H p c ∧ Ch p H0 H ∧ 0 ≤ n ∧ n < 4294967296
theorem ok_draw {f : Addr} {fd : FuncData} (F : FnP K "_law_draw" sDraw f fd) (T : Bi mg) : FnOk P w K mg base CX0 1 f fd ["_law_hand_here", "_law_many"] spDraw := by
  refine F.ok scDraw (fun vs H Q E h => ?_) (fun cdv A outer s H vs Q E hr h => ?_)
  · obtain ⟨p, c, m, rfl, _⟩ := h
    rfl
  · obtain ⟨p, c, m, rfl, ⟨cs, i, g, kk, d, hh⟩, m0, m1, k⟩ := h
    have hu := hu_of hr
    refine ⟨_, PSs.nox (pss_cut (ps_if (PW.pt (pw_and (pt_cmpR op_eq (pe_dget hu (pv 0) pe_str (fun _ _ => rfl)) pe_int (nomark _)) (pw_and1 (pt_cmpR op_lt (pe_dget hu (pv 0) pe_str (fun _ _ => rfl)) (pe_callB call_len_seq (by rfl) T.b_len (by decide +kernel) (pa_cons (pe_dget hu (pv 0) pe_str (fun _ _ => rfl)) pa_nil)) (nomark _))))) (pss_cons (ps_set (i := 2) scDraw.nd rfl (Or.inl rfl) (pe_ix ix_list (pe_dget hu (pv 0) pe_str (fun _ _ => rfl)) (pe_dget hu (pv 0) pe_str (fun _ _ => rfl)) (fun _ _ => rfl)))
      (pss_cons (ps_dput hu (pv 0) pe_str (pe_op op_add (pe_dget hu (pv 0) pe_str (fun _ _ => rfl)) pe_int) rfl)
      (pss_cons (ps_dput hu (pv 0) pe_str (pe_op op_mod (pe_callTy call_int1 (by rfl) T.b_int (by decide +kernel) (pa_cons (pe_op op_add (pe_op op_add (pe_op op_mul (pe_dget hu (pv 0) pe_str (fun _ _ => rfl)) pe_int) (pv 2)) pe_int) pa_nil)) pe_int) rfl)
      (pss_one (ps_if (pt_cmpR op_ge (pv 2) (pe_op op_pow pe_int pe_int) (nomark _)) (pss_one (ps_dput hu (pv 0) pe_str (pv 2) rfl)) pss_nil))))) pss_nil)
    (pss_cut (ps_if (pt_cmpR op_gt (pe_dget hu (pv 0) pe_str (fun _ _ => rfl)) pe_int (nomark _)) (pss_cons (ps_set (i := 3) scDraw.nd rfl (Or.inl rfl) (pe_op op_modP (pe_callTy call_int1 (by rfl) T.b_int (by decide +kernel) (pa_cons (pe_dget hu (pv 0) pe_str (fun _ _ => rfl)) pa_nil)) (pv 1)))
      (pss_cons (ps_dput hu (pv 0) pe_str (pe_op op_fdivP (pe_dget hu (pv 0) pe_str (fun _ _ => rfl)) (pv 1)) rfl)
      (pss_one (ps_ret (pv 3))))) pss_nil)
    (pss_cons (ps_dput hu (pv 0) pe_str (pe_op op_add (pe_dget hu (pv 0) pe_str (fun _ _ => rfl)) pe_int) rfl)
    (pss_cut (ps_set (i := 4) scDraw.nd rfl (Or.inl rfl) (pe_op op_mod (pe_callTy call_int1 (by rfl) T.b_int (by decide +kernel) (pa_cons (pe_op op_mul (pe_callTy call_int1 (by rfl) T.b_int (by decide +kernel) (pa_cons (pe_op op_add (pe_op op_add (pe_dget hu (pv 0) pe_str (fun _ _ => rfl)) pe_int) (pe_op op_mul pe_int (pe_dget hu (pv 0) pe_str (fun _ _ => rfl)))) pa_nil)) pe_int) pa_nil)) pe_int))
    (pss_cut (ps_set (i := 4) scDraw.nd rfl (Or.inl rfl) (pe_op op_mod (pe_callTy call_int1 (by rfl) T.b_int (by decide +kernel) (pa_cons (pe_op op_mul (pv 4) (pe_op op_add (pe_op op_fdiv (pv 4) pe_int) pe_int)) pa_nil)) pe_int))
    (pss_cut (ps_set (i := 4) scDraw.nd rfl (Or.inl rfl) (pe_op op_mod (pe_callTy call_int1 (by rfl) T.b_int (by decide +kernel) (pa_cons (pe_op op_mul (pv 4) (pe_op op_add (pe_op op_fdiv (pv 4) pe_int) pe_int)) pa_nil)) pe_int))
    (pss_one (ps_ret (pe_op op_modP (pe_callTy call_int1 (by rfl) T.b_int (by decide +kernel) (pa_cons (pe_op op_fdiv (pv 4) pe_int) pa_nil)) (pv 1)))))))))), ?_⟩
    refine ⟨DrawMid p c m H, ?_, ?_⟩
    · refine ⟨_, rfl, p, _, rfl, hh.gG, rfl, _, rfl, ?_⟩
      refine ite2 (fun e => ?_) (fun _ => ?_)
      · refine ⟨_, rfl, p, _, rfl, hh.gA, _, rfl, p, _, rfl, hh.gC, c, _, rfl, .inl (SqL.of hh.hc), _, _, rfl, rfl, _, rfl, ?_⟩
        refine ite2 (fun e => ?_) (fun _ => ?_)
        · have hi : i < ((cs.map V.int).length : Int) := of_decide_eq_true e
          obtain ⟨x, hx, hx0⟩ : ∃ x, cs[i.toNat]? = some x ∧ 0 ≤ x := by
            have hl : i.toNat < cs.length := by
              rw [List.length_map] at hi
              have := hh.i0
              omega
            exact ⟨_, List.getElem?_eq_getElem hl, hh.nn _ (List.getElem_mem hl)⟩
          have hat : atI (cs.map V.int) i = some (V.int x) := at_of (j := i.toNat) (by have := hh.i0; omega) (by rw [List.getElem?_map, hx]; rfl)
          refine ⟨_, rfl, p, _, rfl, hh.gC, _, rfl, p, _, rfl, hh.gA, c, _, _, _, rfl, rfl, SqL.of hh.hc, hat, ?_⟩
          -- hand[1] = hand[1] + 1
          have h2 := hh.put (i' := i + 1) (g' := g) (k' := kk) (d' := d) (by have := hh.i0; omega) hh.g0 hh.k0 hh.d0
          refine ⟨_, rfl, p, _, rfl, hh.gA, _, _, rfl, rfl, _, rfl, p, _, rfl, hh.pA _, ?_⟩
          -- hand[3] = ..
          have h3 := h2.put (i' := i + 1) (g' := g) (k' := (kk * 48271 + x + 7) % 2147483629) (d' := d) (by have := hh.i0; omega) hh.g0 (Int.emod_nonneg _ (by decide)) hh.d0
          refine ⟨_, rfl, p, _, rfl, h2.gS, _, _, rfl, rfl, .inr ⟨by decide, by decide⟩, _, rfl, _, _, rfl, rfl, _, _, rfl, rfl, .inl ⟨_, rfl, _, _, rfl, rfl, (by show (0 : Int) < 2147483629; decide), _, rfl, p, _, rfl, h2.pS _, ?_⟩⟩
          -- if cell >= 10 ** 18
          refine ⟨_, rfl, _, _, rfl, rfl, ⟨by decide, by decide, by decide⟩, _, _, rfl, rfl, _, rfl, ?_⟩
          refine ite2 (fun _ => ?_) (fun _ => ?_)
          · have h4 := h3.put (i' := i + 1) (g' := x) (k' := (kk * 48271 + x + 7) % 2147483629) (d' := d) (by have := hh.i0; omega) hx0 (Int.emod_nonneg _ (by decide)) hh.d0
            refine ⟨_, rfl, _, rfl, p, _, rfl, h3.pG _, ?_⟩
            exact ⟨cs, _, _, _, _, _, _, _, rfl, h4, ((Ch.refl _ _).upd _).upd _ |>.upd _⟩
          · exact ⟨cs, _, _, _, _, _, _, _, rfl, h3, ((Ch.refl _ _).upd _).upd _⟩
        · exact ⟨cs, i, g, kk, d, _, _, _, rfl, hh, Ch.refl _ _⟩
      · exact ⟨cs, i, g, kk, d, _, _, _, rfl, hh, Ch.refl _ _⟩
    · rintro σ' H' ⟨cs, i, g, kk, d, x, y, z, rfl, hh, ch⟩
      refine ⟨DrawMid p c m H, ?_, ?_⟩
      · -- if hand[2] > 0
        refine ⟨_, rfl, p, _, rfl, hh.gG, _, _, rfl, rfl, _, rfl, ?_⟩
        refine ite2 (fun _ => ?_) (fun _ => ?_)
        · refine ⟨_, rfl, p, _, rfl, hh.gG, .inl ⟨_, rfl, _, rfl, _, _, rfl, rfl, m0, ?_⟩⟩
          have h2 := hh.put (i' := i) (g' := g / m) (k' := kk) (d' := d) hh.i0 (Int.ediv_nonneg hh.g0 (by omega)) hh.k0 hh.d0
          refine ⟨_, rfl, p, _, rfl, hh.gG, _, rfl, _, _, rfl, rfl, ⟨m0, m1⟩, _, rfl, p, _, rfl, hh.pG _, ?_⟩
          exact ⟨_, rfl, k _ _ (Int.emod_nonneg _ (by omega)) (Int.emod_lt_of_pos _ m0) ⟨cs, _, _, _, _, h2⟩ (ch.upd _)⟩
        · exact ⟨cs, i, g, kk, d, _, _, _, rfl, hh, ch⟩
      · rintro σ' H' ⟨cs, i, g, kk, d, x, y, z, rfl, hh, ch⟩
        have h2 := hh.put (i' := i) (g' := g) (k' := kk) (d' := d + 1) hh.i0 hh.g0 hh.k0 (by have := hh.d0; omega)
        refine ⟨_, rfl, p, _, rfl, hh.gT, _, _, rfl, rfl, _, rfl, p, _, rfl, hh.pT _, ?_⟩
        refine ⟨DrawNum p c m H, ?_, ?_⟩
        · refine ⟨_, rfl, p, _, rfl, h2.gS, _, _, rfl, rfl, _, rfl, p, _, rfl, h2.gT, _, _, rfl, rfl, .inl ⟨by decide, by decide⟩, _, _, rfl, rfl, .inl ⟨_, rfl, _, _, rfl, rfl, .inr ⟨by decide, by decide⟩, .inl ⟨_, rfl, _, _, rfl, rfl, (by show (0 : Int) < 2147483647; decide), ?_⟩⟩⟩
          exact ⟨_, _, _, rfl, ⟨cs, _, _, _, _, h2⟩, ch.upd _, Int.emod_nonneg _ (by decide), Int.lt_trans (Int.emod_lt_of_pos _ (by decide)) (by decide)⟩
        · rintro σ' H' ⟨x, y, n, rfl, hh, ch, n0, n1⟩
          refine ⟨DrawNum p c m H, ?_, ?_⟩
          · refine ⟨_, rfl, _, rfl, _, _, rfl, rfl, ⟨by decide, by decide⟩, _, _, rfl, rfl, _, _, rfl, rfl, .inl ⟨by omega, by omega⟩, .inl ⟨_, rfl, _, _, rfl, rfl, (by show (0 : Int) < 2147483647; decide), ?_⟩⟩
            exact ⟨_, _, _, rfl, hh, ch, Int.emod_nonneg _ (by decide), Int.lt_trans (Int.emod_lt_of_pos _ (by decide)) (by decide)⟩
          · rintro σ' H' ⟨x, y, n, rfl, hh, ch, n0, n1⟩
            refine ⟨DrawNum p c m H, ?_, ?_⟩
            · refine ⟨_, rfl, _, rfl, _, _, rfl, rfl, ⟨by decide, by decide⟩, _, _, rfl, rfl, _, _, rfl, rfl, .inl ⟨by omega, by omega⟩, .inl ⟨_, rfl, _, _, rfl, rfl, (by show (0 : Int) < 2147483399; decide), ?_⟩⟩
              exact ⟨_, _, _, rfl, hh, ch, Int.emod_nonneg _ (by decide), Int.lt_trans (Int.emod_lt_of_pos _ (by decide)) (by decide)⟩
            · rintro σ' H' ⟨x, y, n, rfl, hh, ch, n0, n1⟩
              refine ⟨_, rfl, _, _, rfl, rfl, ⟨by decide, by decide⟩, .inl ⟨_, rfl, _, rfl, _, _, rfl, rfl, m0, ?_⟩⟩
              exact k _ _ (Int.emod_nonneg _ (by omega)) (Int.emod_lt_of_pos _ m0) hh ch
end

/-- a thing nested in lists, tuples, dicts -/
inductive Deep (H : Hp) : V → Prop where
  | non : Deep H .non
  | str : Deep H (.str "x")
  | nil {a : Addr} (h : H a = some (.tup [])) : Deep H (.ref a)
  | lst {a : Addr} {v : V} (h : H a = some (.lst [v])) (d : Deep H v) : Deep H (.ref a)
  | tup {a : Addr} {v : V} (h : H a = some (.tup [v])) (d : Deep H v) : Deep H (.ref a)
  | dic {a : Addr} {v : V} (h : H a = some (.dK [(.inl 0, v)])) (d : Deep H v) : Deep H (.ref a)
theorem Deep.kp {H H' : Hp} {p c : Addr} {v : V} (hh : HandAt H p c) (k : Kp p H H') (d : Deep H v) : Deep H' v := by
  obtain ⟨cs, i, g, kk, dd, hh⟩ := hh
  induction d with
  | non => exact .non
  | str => exact .str
  | nil h => exact .nil (k _ _ (ne_of h hh.hp (by intro z; cases z)) h)
  | lst h _ ih => exact .lst (k _ _ (ne_of h hh.hp (by intro z; cases z)) h) ih
  | tup h _ ih => exact .tup (k _ _ (ne_of h hh.hp (by intro z; cases z)) h) ih
  | dic h _ ih => exact .dic (k _ _ (ne_of h hh.hp (by intro z; cases z)) h) ih
theorem Deep.same {H H' : Hp} {v : V} (k : Same H H') (d : Deep H v) : Deep H' v := by
  induction d with
  | non => exact .non
  | str => exact .str
  | nil h => exact .nil (k _ _ h)
  | lst h _ ih => exact .lst (k _ _ h) ih
  | tup h _ ih => exact .tup (k _ _ h) ih
  | dic h _ ih => exact .dic (k _ _ h) ih
def SqA (K : PySem.W.Frag) (H : Hp) (t : Addr) (xs : List V) : Prop := SqL K H t xs ∨ SqT K H t xs
theorem SqA.ch {K : PySem.W.Frag} {p : Addr} {H H' : Hp} {t : Addr} {xs : List V} (c : Ch p H H') (ne : t ≠ p) (h : SqA K H t xs) : SqA K H' t xs := by
  rcases h with ((h | ⟨o, h⟩) | h) | ((h | ⟨o, h⟩) | h)
  · exact .inl (.inl (.inl (by rw [c t ne]; exact h)))
  · exact .inl (.inl (.inr ⟨o, by rw [c t ne]; exact h⟩))
  · exact .inl (.inr h)
  · exact .inr (.inl (.inl (by rw [c t ne]; exact h)))
  · exact .inr (.inl (.inr ⟨o, by rw [c t ne]; exact h⟩))
  · exact .inr (.inr h)
theorem _root_.ZX.Kp.ptK {p : Addr} {H H' : Hp} {kvs : List (Key × V)} (h : H p = some (.dK kvs)) (k : Kp p H H') : Pt H H' := fun b ys hb => by
  have ne : b ≠ p := fun e => by
    subst e
    rcases hb with hb | ⟨o, hb⟩ <;> rw [h] at hb <;> cases hb
  exact hb.elim (fun h => .inl (k _ _ ne h)) fun ⟨o, h⟩ => .inr ⟨o, k _ _ ne h⟩
theorem HandAt.pt {H H' : Hp} {p c : Addr} (h : HandAt H p c) (k : Kp p H H') : Pt H H' := by
  obtain ⟨cs, i, g, kk, d, h⟩ := h
  exact Kp.ptK h.hp k
/-- a list that is not the hand, or a tuple -/
def SqP (K : PySem.W.Frag) (H : Hp) (p t : Addr) (xs : List V) : Prop := (t ≠ p ∧ SqA K H t xs) ∨ SqT K H t xs
def spAny (K : PySem.W.Frag) : Sp := fun vs H Q _ => ∃ (p c t : Addr) (xs : List V), vs = [.ref p, .ref t] ∧ HandAt H p c ∧ SqP K H p t xs ∧ xs ≠ [] ∧ xs.length < 1073741824 ∧ ∀ (x : V) (H' : Hp), x ∈ xs → HandAt H' p c → Ch p H H' → Q x H'
def spDeep : Sp := fun vs H Q _ => ∃ p c : Addr, vs = [.ref p] ∧ HandAt H p c ∧ ∀ (v : V) (H' : Hp), HandAt H' p c → Kp p H H' → Deep H' v → Q v H'
section
variable {P : Program} {w : World} {K : PySem.W.Frag} {mg : Str → Option Value} {base : Heap}
theorem scAny : FnScope ["_law_hand_here", "_law_things"] ["_law_hand_here", "_law_things"] (defScope sAny) := ⟨rfl, rfl, rfl, by decide +kernel, rfl, by decide +kernel, by decide +kernel⟩
theorem ok_any {f : Addr} {fd : FuncData} (F : FnP K "_law_any" sAny f fd) (T : Bi mg) (C_draw : Cal P w K mg base "_law_draw" 1 ["_law_hand_here", "_law_many"] spDraw) : FnOk P w K mg base CX0 2 f fd ["_law_hand_here", "_law_things"] (spAny K) := by
  refine F.ok scAny (fun vs H Q E h => ?_) (fun cdv A outer s H vs Q E hr h => ?_)
  · obtain ⟨p, c, t, xs, rfl, _⟩ := h
    rfl
  · obtain ⟨p, c, t, xs, rfl, hh, hS, hx, hl, k⟩ := h
    have hA : SqA K H t xs := hS.elim (fun h => h.2) .inr
    refine ⟨_, PSs.nox (pss_one (ps_ret (pe_ix ix_seq (pv 1) (pcal C_draw hr rfl (pa_cons (pv 0) (pa_cons (pe_callB call_len_seq (by rfl) T.b_len (by decide +kernel) (pa_cons (pv 1) pa_nil)) pa_nil))) (fun _ _ => rfl)))), ?_⟩
    have hpos : 0 < xs.length := List.length_pos_iff.mpr hx
    refine ⟨_, rfl, _, rfl, _, rfl, t, xs, rfl, hA, p, c, _, rfl, hh, by omega, by omega, fun d H' d0 d1 hh' ch => ?_⟩
    have hd : d.toNat < xs.length := by omega
    have hat : atI xs d = some xs[d.toNat] := at_of (j := d.toNat) (by omega) (List.getElem?_eq_getElem hd)
    have hQ := k xs[d.toNat] H' (List.getElem_mem hd) hh' ch
    have hA' : SqA K H' t xs := hS.elim (fun h => h.2.ch ch h.1) fun h => .inr ((hh.pt ch.kp).sq h)
    rcases hA' with h | h
    · exact .inl ⟨t, xs, d, _, rfl, rfl, h, hat, hQ⟩
    · exact .inr (.inl ⟨t, xs, d, _, rfl, rfl, h, hat, hQ⟩)
def DeepMid (p c : Addr) (H0 : Hp) (σ : L2.St) (H : Hp) : Prop := ∃ (v : V) (t : Option V), σ = [some (.ref p), some v, t] ∧ HandAt H p c ∧ Kp p H0 H ∧ Deep H v
theorem three {a b c : V} {d : Int} (h0 : 0 ≤ d) (h3 : d < 3) (Q : V → Prop) (ha : Q a) (hb : Q b) (hc : Q c) : ∃ x, atI [a, b, c] d = some x ∧ Q x := by
  have e : d = 0 ∨ d = 1 ∨ d = 2 := by omega
  rcases e with rfl | rfl | rfl
  · exact ⟨a, rfl, ha⟩
  · exact ⟨b, rfl, hb⟩
  · exact ⟨c, rfl, hc⟩
end

end K24
set_option Elab.async false
set_option linter.all false
set_option maxRecDepth 100000
set_option maxHeartbeats 4000000
namespace K24
open PySem PySem.Spec PyProof.Rows L2 ZX PM ZR
abbrev sLWords : Stmt := top 65
abbrev sLPlain : Stmt := top 66
theorem HandAt.away {H1 H' : Hp} {p c D : Addr} {o : HO} (h : HandAt H' p c) (h1 : HandAt H1 p c) (n : H1 D = none) : HandAt (upd H' D o) p c := by
  obtain ⟨cs, i, g, kk, d, h⟩ := h
  obtain ⟨cs1, i1, g1, kk1, d1, h1⟩ := h1
  exact ⟨cs, i, g, kk, d, by rw [upd_ne (ne_of_none h1.hp n)]; exact h.hp, by rw [upd_ne (ne_of_none h1.hc n)]; exact h.hc, h.ne, h.nn, h.i0, h.g0, h.k0, h.d0⟩
/-- words and ops to draw from -/
structure Two (H : Hp) (p c wa oa : Addr) (ws os : List Str) : Prop where
  hh : HandAt H p c
  hw : H wa = some (.lst (ws.map V.str))
  ho : H oa = some (.lst (os.map V.str))
  nw : wa ≠ p
  no : oa ≠ p
  ew : ws ≠ []
  eo : os ≠ []
  lw : ws.length < 1000
  lo : os.length < 1000
theorem Two.kp {H H' : Hp} {p c wa oa : Addr} {ws os : List Str} (t : Two H p c wa oa ws os) (hh : HandAt H' p c) (k : Kp p H H') : Two H' p c wa oa ws os :=
  ⟨hh, k _ _ t.nw t.hw, k _ _ t.no t.ho, t.nw, t.no, t.ew, t.eo, t.lw, t.lo⟩
theorem Two.same {H H' : Hp} {p c wa oa : Addr} {ws os : List Str} (t : Two H p c wa oa ws os) (s : Same H H') : Two H' p c wa oa ws os := t.kp (t.hh.kp s) s.kp
/-- drawn from these -/
def DrR (ws os : List Str) : Rw → Prop
  | .note x o ps => x ∈ ws ∧ o ∈ os ∧ ps.length ≤ 3 ∧ ∀ y ∈ ps, y ∈ ws
  | .copy x y => x ∈ ws ∧ y ∈ ws
  | .give x _ => x ∈ ws
  | .ask x => x ∈ ws
  | .prt x => x ∈ ws
  | .either _ _ => True
  | .again _ => True
def spLPlain (K : PySem.W.Frag) : Sp := fun vs H Q _ => ∃ (p c wa oa : Addr) (ws os : List Str), vs = [.ref p, .ref wa, .ref oa] ∧ Two H p c wa oa ws os ∧ ∀ v r H', HandAt H' p c → Kp p H H' → RV K H' v r → inner r = [] → DrR ws os r → Q v H'
theorem any_of {K : PySem.W.Frag} {H : Hp} {Q : VK} {E : XK} {p c t : Addr} {xs : List Str} (hh : HandAt H p c) (ne : t ≠ p) (h : H t = some (.lst (xs.map V.str))) (hx : xs ≠ []) (hl : xs.length < 1000) (k : ∀ x H', x ∈ xs → HandAt H' p c → Kp p H H' → Q (.str x) H') : spAny K [.ref p, .ref t] H Q E :=
  ⟨p, c, t, xs.map V.str, rfl, hh, .inl ⟨ne, .inl (SqL.of h)⟩, by simpa using hx, by rw [List.length_map]; omega, fun x H' hx hh' ch => by
    obtain ⟨y, hy, rfl⟩ := List.mem_map.mp hx
    exact k y H' hy hh' ch.kp⟩
theorem strs_of {α : Type} {ws : List Str} : ∀ {n : List α} {ys : List V}, All2 (fun _ y => ∃ x ∈ ws, y = V.str x) n ys → ∃ ps : List Str, ys = ps.map V.str ∧ ∀ y ∈ ps, y ∈ ws
  | _, _, .nil => ⟨[], rfl, fun _ h => nomatch h⟩
  | _, _, .cons ⟨x, hx, e⟩ t => by
    obtain ⟨ps, rfl, h⟩ := strs_of t
    subst e
    exact ⟨x :: ps, rfl, fun y hy => (List.mem_cons.mp hy).elim (fun e => e ▸ hx) (h y)⟩
theorem _root_.ZX.Kp.fresh {p l : Addr} {H H' : Hp} {o : HO} (k : Kp p H H') (n : H l = none) : Kp p H (upd H' l o) := fun b u nb e => by
  rw [upd_ne (ne_of_none e n)]
  exact k b u nb e
/-- a letter -/
def Ltr (c : Nat) : Prop := 97 ≤ c ∧ c ≤ 122
def LETS : Str := "abcdefghijklmnopqrstuvwxyz"
def ENDS : Str := "mzaqbrkc"
theorem lets_all : ∀ c ∈ LETS.cps.toList, Ltr c := by
  show ∀ c ∈ LETS.cps.toList, 97 ≤ c ∧ c ≤ 122
  decide +kernel
theorem ends_all : ∀ c ∈ ENDS.cps.toList, Ltr c := by
  show ∀ c ∈ ENDS.cps.toList, 97 ≤ c ∧ c ≤ 122
  decide +kernel
theorem let_at {L : List Nat} (h : ∀ c ∈ L, Ltr c) {n : Int} (h0 : 0 ≤ n) (h1 : n < L.length) : ∃ c, atI L n = some c ∧ Ltr c := by
  obtain ⟨j, rfl⟩ := Int.eq_ofNat_of_zero_le h0
  have hj : j < L.length := by omega
  exact ⟨L[j], atI_nat (List.getElem?_eq_getElem hj), h _ (List.getElem_mem hj)⟩
theorem lets_of {α : Type} : ∀ {n : List α} {ys : List V}, All2 (fun _ y => ∃ a, Ltr a ∧ y = V.str ⟨#[a]⟩) n ys → ∃ cs : List Nat, ys = (cs.map fun a => (⟨#[a]⟩ : Str)).map V.str ∧ cs.length = n.length ∧ ∀ a ∈ cs, Ltr a
  | _, _, .nil => ⟨[], rfl, rfl, fun _ h => nomatch h⟩
  | _, _, .cons ⟨a, ha, e⟩ t => by
    obtain ⟨cs, rfl, hl, h⟩ := lets_of t
    subst e
    exact ⟨a :: cs, rfl, by rw [List.length_cons, List.length_cons, hl], fun y hy => (List.mem_cons.mp hy).elim (fun e => e ▸ ha) (h y)⟩
theorem word_ok {cs : List Nat} (hl : cs.length ≤ 2) (h : ∀ a ∈ cs, Ltr a) {c : Nat} (hc : Ltr c) : NameOk (Txt.join (Str.ofString "") (cs.map fun a => (⟨#[a]⟩ : Str)) ++ (⟨#[c]⟩ : Str)) ∧ (Txt.join (Str.ofString "") (cs.map fun a => (⟨#[a]⟩ : Str))).length ≤ 2 := by
  match cs, hl, h with
  | [], _, _ => exact ⟨⟨by show 1 ≤ 1; decide, by show 1 ≤ 8; decide, fun x hx => by
      have e : x ∈ [c] := hx
      rw [List.mem_singleton.mp e]
      exact hc⟩, by show 0 ≤ 2; decide⟩
  | [a], _, h => exact ⟨⟨by show 1 ≤ 2; decide, by show 2 ≤ 8; decide, fun x hx => by
      have e : x ∈ [a, c] := hx
      simp only [List.mem_cons, List.not_mem_nil, or_false] at e
      rcases e with rfl | rfl
      · exact h _ (List.mem_cons_self ..)
      · exact hc⟩, by show 1 ≤ 2; decide⟩
  | [a, b], _, h => exact ⟨⟨by show 1 ≤ 3; decide, by show 3 ≤ 8; decide, fun x hx => by
      have e : x ∈ [a, b, c] := hx
      simp only [List.mem_cons, List.not_mem_nil, or_false] at e
      rcases e with rfl | rfl | rfl
      · exact h _ (List.mem_cons_self ..)
      · exact h _ (List.mem_cons_of_mem _ (List.mem_cons_self ..))
      · exact hc⟩, by show 2 ≤ 2; decide⟩
  | _ :: _ :: _ :: _, hl, _ => exact absurd hl (by simp)
def spLWords : Sp := fun vs H Q _ => ∃ (p c : Addr) (n : Nat), vs = [.ref p, .int n] ∧ HandAt H p c ∧ 1 ≤ n ∧ n ≤ 8 ∧ ∀ (l : Addr) (ws : List Str) (H' : Hp), HandAt H' p c → Kp p H H' → H l = none → H' l = some (.lst (ws.map V.str)) → ws.length = n → (∀ x ∈ ws, NameOk x) → Q (.ref l) H'
section
variable {P : Program} {w : World} {K : PySem.W.Frag} {mg : Str → Option Value} {base : Heap}
theorem scWords : FnScope ["_law_hand_here", "_law_many", "_law_letters", "_law_found", "_law_k", "_law_j"] ["_law_hand_here", "_law_many"] (defScope sLWords) := ⟨rfl, rfl, rfl, by decide +kernel, rfl, by decide +kernel, by decide +kernel⟩
theorem ok_lwords {f : Addr} {fd : FuncData} (F : FnP K "_law_words" sLWords f fd) (T : Bi mg) (C__law_draw : Cal P w K mg base "_law_draw" 1 ["_law_hand_here", "_law_many"] spDraw) : FnOk P w K mg base CX0 2 f fd ["_law_hand_here", "_law_many"] spLWords := by
  refine F.ok scWords (fun vs H Q E h => ?_) (fun cdv A outer s H vs Q E hr h => ?_)
  · obtain ⟨p, c, n, rfl, _⟩ := h
    rfl
  · obtain ⟨p, c, n, rfl, hh0, n1, n8, k⟩ := h
    have hr__law_draw := hr
    refine ⟨_, PSs.nox (pss_cons (ps_set (i := 2) scWords.nd rfl (Or.inr rfl) pe_str)
    (pss_cons (ps_set (i := 3) scWords.nd rfl (Or.inl rfl) (pe_lst pa_nil))
    (pss_cons (ps_for PassesOwn.never rfl (pi_range1 rfl T.b_range (pa_cons (pv 1) pa_nil)) (pg_name (i := 4) scWords.nd rfl (Or.inl rfl)) (pss_one (ps_expr (pe_bm PySem.F.plainAttrs_list PySem.F.slot_list_append PySem.F.type_list_append mt_append (pv 3) (pa_cons (pe_op op_add_str (pe_join pe_str (pe_lcS (own := [("_law_j", 5)]) (g := gName 5) (tt := tYes) (by rfl) scWords.nd (pi_range1 rfl T.b_range (pa_cons (pcal C__law_draw hr__law_draw rfl (pa_cons (pv 0) (pa_cons pe_int pa_nil))) pa_nil)) (blkOk_by (N := ["_law_hand_here", "_law_many", "_law_letters", "_law_found", "_law_k", "_law_j"]) (sc := defScope sLWords) (by decide +kernel)) (fun _ _ _ _ _ => (pg_name (i := 5) scWords.nd rfl (Or.inl rfl))) (fun _ _ _ _ _ => pts_nil) (fun _ _ _ _ _ => (pe_ix ix_str (pv 2) (pcal C__law_draw hr__law_draw rfl (pa_cons (pv 0) (pa_cons pe_int pa_nil))) (fun _ _ => rfl))))) (pe_ix ix_str pe_str (pv 4) (fun _ _ => rfl))) pa_nil)))))
    (pss_one (ps_ret (pv 3)))))), ?_⟩
    refine ⟨by decide, fun l nl => ?_⟩
    have sl := same_new (o := .lst []) nl
    have nlp : l ≠ p := by
      obtain ⟨o, e⟩ := hh0.some
      exact (ne_of_none e nl).symm
    refine ⟨_, rfl, _, rfl, by omega, by omega, ?_⟩
    refine for_range (fun i σ' H' => ∃ (ws : List Str) (y : Option V), σ' = [some (.ref p), some (.int n), some (.str LETS), some (.ref l), y, none] ∧ HandAt H' p c ∧ Kp p H H' ∧ H' l = some (.lst (ws.map V.str)) ∧ ws.length = i ∧ ∀ x ∈ ws, NameOk x) ⟨[], _, rfl, hh0.kp sl, sl.kp, upd_same, rfl, fun _ h => nomatch h⟩ ?_ ?_
    · rintro i σ' H' hi ⟨ws, y, rfl, hh, kp, hl, hlen, hok⟩
      refine ⟨_, rfl, .inl ⟨rfl, _, SqL.of hl⟩, ⟨_, rfl⟩, ?_⟩
      refine lc_into ?_
      refine ⟨_, rfl, p, c, 3, rfl, hh, by decide, by decide, fun m H2 m0 m3 hh2 ch2 => ⟨_, rfl, by omega, by omega, ?_⟩⟩
      refine lc_overI (p := some p) (as := List.range m.toNat) (Rel := fun _ _ y => ∃ a, Ltr a ∧ y = V.str ⟨#[a]⟩) (fun H => HandAt H p c) it_range ?_ (fun _ _ _ _ _ h => h) (fun a e => by cases e; exact hh2.some) ?_ (fun D hD => hh2.new hD) (fun D H' o hD h => h.away hh2 hD) (fun _ _ _ _ => trivial) ?_ ?_
      · rw [List.length_map]
      · rw [List.length_map, List.length_range]
        exact Nat.lt_of_lt_of_le (show m.toNat < 3 by omega) (by decide)
      · intro j z e hz he H5 kq pt hh5 R kR
        refine ⟨rfl, _, rfl, _, rfl, p, c, 26, rfl, hh5, by decide, by decide, fun d H6 d0 d26 hh6 ch6 => ?_⟩
        obtain ⟨a, ha, hla⟩ := let_at lets_all d0 (show d < (LETS.cps.toList.length : Nat) from d26)
        exact ⟨LETS, d, a, rfl, rfl, by decide +kernel, ha, kR _ _ (Kp.kq ch6.kp) (hh5.pt ch6.kp) hh6 ⟨a, hla, rfl⟩⟩
      · intro D ys H5 kq pt hh5 nD hD all
        obtain ⟨cs, rfl, hcl, hcs⟩ := lets_of all
        rw [List.length_range] at hcl
        have hc2 : cs.length ≤ 2 := by omega
        obtain ⟨a, ha, hla⟩ := let_at ends_all (show (0 : Int) ≤ 0 + (i : Nat) by omega) (show 0 + ((i : Nat) : Int) < (ENDS.cps.toList.length : Nat) by show 0 + ((i : Nat) : Int) < 8; omega)
        obtain ⟨hw, hj⟩ := word_ok hc2 hcs hla
        refine ⟨_, D, _, rfl, rfl, .inl (SqL.of hD), ?_, _, rfl, ENDS, _, a, rfl, rfl, by decide +kernel, ha, _, _, rfl, rfl, ?_, ?_⟩
        · rw [List.map_map]
          have e : ((fun x : Str => x.length) ∘ fun a => (⟨#[a]⟩ : Str)) = fun _ => 1 := rfl
          rw [e]
          match cs, hc2 with
          | [], _ => exact (by decide : 0 + 0 * 0 ≤ 16777216)
          | [_], _ => exact (by decide : 1 + 0 + 1 * 0 ≤ 16777216)
          | [_, _], _ => exact (by decide : 1 + (1 + 0) + 2 * 0 ≤ 16777216)
          | _ :: _ :: _ :: _, h => exact absurd h (by simp)
        · exact Nat.le_trans (show _ ≤ 2 + 1 from Nat.add_le_add_right hj 1) (by decide)
        · have hl5 := kq.kp _ _ nlp ((ch2.kp _ _ nlp hl))
          refine ⟨l, _, _, rfl, rfl, hl5, ?_, ?_⟩
          · rw [List.length_map]
            exact Nat.lt_of_lt_of_le (show ws.length < 8 by omega) (by decide)
          · have s5 : Kp p H5 (upd H5 l (.lst (ws.map V.str ++ [V.str (Txt.join (Str.ofString "") (cs.map fun a => (⟨#[a]⟩ : Str)) ++ (⟨#[a]⟩ : Str))]))) → True := fun _ => trivial
            refine ⟨ws ++ [Txt.join (Str.ofString "") (cs.map fun a => (⟨#[a]⟩ : Str)) ++ (⟨#[a]⟩ : Str)], _, rfl, ?_, ((kp.trans ch2.kp).trans kq.kp).fresh nl, ?_, by rw [List.length_append, hlen]; rfl, fun x hx => ?_⟩
            · exact hh5.away hh0 nl
            · rw [upd_same, List.map_append]
              rfl
            · rcases List.mem_append.mp hx with h | h
              · exact hok x h
              · rw [List.mem_singleton.mp h]
                exact hw
    · rintro σ' H' ⟨ws, y, rfl, hh, kp, hl, hlen, hok⟩
      exact ⟨_, rfl, k l ws H' hh kp nl hl (by omega) hok⟩
end
end K24
set_option Elab.async false
set_option linter.all false
set_option maxRecDepth 100000
set_option maxHeartbeats 4000000
namespace K24
open PySem PySem.Spec PyProof.Rows L2 ZX PM ZR
theorem six {a0 a1 a2 a3 a4 a5 : V} {d : Int} (h0 : 0 ≤ d) (h6 : d < 6) (Q : V → Prop) (q0 : Q a0) (q1 : Q a1) (q2 : Q a2) (q3 : Q a3) (q4 : Q a4) (q5 : Q a5) : ∃ x, atI [a0, a1, a2, a3, a4, a5] d = some x ∧ Q x := by
  have e : d = 0 ∨ d = 1 ∨ d = 2 ∨ d = 3 ∨ d = 4 ∨ d = 5 := by omega
  rcases e with rfl | rfl | rfl | rfl | rfl | rfl
  · exact ⟨_, rfl, q0⟩
  · exact ⟨_, rfl, q1⟩
  · exact ⟨_, rfl, q2⟩
  · exact ⟨_, rfl, q3⟩
  · exact ⟨_, rfl, q4⟩
  · exact ⟨_, rfl, q5⟩
section
variable {P : Program} {w : World} {K : PySem.W.Frag} {mg : Str → Option Value} {base : Heap}
theorem scPlain : FnScope ["_law_hand_here", "_law_menu", "_law_ops", "_law_kind", "_law_x", "_law_y", "_law_many", "_law_k"] ["_law_hand_here", "_law_menu", "_law_ops"] (defScope sLPlain) := ⟨rfl, rfl, rfl, by decide +kernel, rfl, by decide +kernel, by decide +kernel⟩
theorem ok_lplain {f : Addr} {fd : FuncData} (F : FnP K "_law_plain" sLPlain f fd) (T : Bi mg) (C__law_draw : Cal P w K mg base "_law_draw" 1 ["_law_hand_here", "_law_many"] spDraw) (C__law_any : Cal P w K mg base "_law_any" 2 ["_law_hand_here", "_law_things"] (spAny K)) : FnOk P w K mg base CX0 3 f fd ["_law_hand_here", "_law_menu", "_law_ops"] (spLPlain K) := by
  refine F.ok scPlain (fun vs H Q E h => ?_) (fun cdv A outer s H vs Q E hr h => ?_)
  · obtain ⟨p, c, wa, oa, ws, os, rfl, _⟩ := h
    rfl
  · obtain ⟨p, c, wa, oa, ws, os, rfl, t0, k⟩ := h
    have hr__law_draw := hr.mono (show 1 ≤ 2 by decide)
    have hr__law_any := hr
    refine ⟨_, PSs.nox (pss_cut (ps_set (i := 3) scPlain.nd rfl (Or.inl rfl) (pcal C__law_draw hr__law_draw rfl (pa_cons (pv 0) (pa_cons pe_int pa_nil))))
    (pss_cut (ps_par (by rfl) scPlain.nd (i := 4) (j := 5) rfl rfl (by decide) rfl rfl (pa_cons (pcal C__law_any hr__law_any rfl (pa_cons (pv 0) (pa_cons (pv 1) pa_nil))) (pa_cons (pcal C__law_any hr__law_any rfl (pa_cons (pv 0) (pa_cons (pv 1) pa_nil))) pa_nil)) (by rfl))
    (pss_cons (ps_if (pt_cmpR op_lt (pv 3) pe_int (nomark _)) (pss_cut (ps_set (i := 6) scPlain.nd rfl (Or.inl rfl) (pe_ix ix_list (pe_lst (pa_cons pe_int (pa_cons pe_int (pa_cons pe_int (pa_cons pe_int (pa_cons pe_int (pa_cons pe_int pa_nil))))))) (pcal C__law_draw hr__law_draw rfl (pa_cons (pv 0) (pa_cons pe_int pa_nil))) (fun _ _ => rfl)))
      (pss_one (ps_ret (pe_tup (pa_cons pe_str (pa_cons (pv 4) (pa_cons (pcal C__law_any hr__law_any rfl (pa_cons (pv 0) (pa_cons (pv 2) pa_nil))) (pa_cons (pe_callTy call_tuple_of (by rfl) T.b_tuple (by decide +kernel) (pa_cons (pe_lcS (own := [("_law_k", 7)]) (g := gName 7) (tt := tYes) (by rfl) scPlain.nd (pi_range1 rfl T.b_range (pa_cons (pv 6) pa_nil)) (blkOk_by (N := ["_law_hand_here", "_law_menu", "_law_ops", "_law_kind", "_law_x", "_law_y", "_law_many", "_law_k"]) (sc := defScope sLPlain) (by decide +kernel)) (fun _ _ _ _ _ => (pg_name (i := 7) scPlain.nd rfl (Or.inl rfl))) (fun _ _ _ _ _ => pts_nil) (fun _ _ _ _ _ => (pcal C__law_any hr__law_any rfl (pa_cons (pv 0) (pa_cons (pv 1) pa_nil))))) pa_nil)) pa_nil)))))))) pss_nil)
    (pss_cons (ps_if (pt_cmpR op_lt (pv 3) pe_int (nomark _)) (pss_one (ps_ret (pe_tup (pa_cons pe_str (pa_cons (pv 4) (pa_cons (pv 5) pa_nil)))))) pss_nil)
    (pss_cons (ps_if (pt_cmpR op_eq (pv 3) pe_int (nomark _)) (pss_one (ps_ret (pe_tup (pa_cons pe_str (pa_cons (pv 4) (pa_cons (pcal C__law_any hr__law_any rfl (pa_cons (pv 0) (pa_cons (pe_lst (pa_cons pe_int (pa_cons pe_int (pa_cons (pe_un un_neg pe_int) (pa_cons (pe_op op_pow pe_int pe_int) pa_nil))))) pa_nil))) pa_nil)))))) pss_nil)
    (pss_one (ps_ret (pe_ifExp (pt_cmpR op_eq (pv 3) pe_int (nomark _)) (pe_tup (pa_cons pe_str (pa_cons (pv 4) pa_nil))) (pe_tup (pa_cons pe_str (pa_cons (pv 4) pa_nil))))))))))), ?_⟩
    refine ⟨fun σ' H' => ∃ d : Int, σ' = [some (.ref p), some (.ref wa), some (.ref oa), some (.int d), none, none, none, none] ∧ Two H' p c wa oa ws os ∧ Kp p H H', ?_, ?_⟩
    · exact ⟨_, rfl, p, c, 12, rfl, t0.hh, by decide, by decide, fun d H2 _ _ hh2 ch => ⟨d, rfl, t0.kp hh2 ch.kp, ch.kp⟩⟩
    rintro σ0 H0 ⟨d, rfl, t0', k0⟩
    refine ⟨fun σ' H' => ∃ x y, σ' = [some (.ref p), some (.ref wa), some (.ref oa), some (.int d), some (.str x), some (.str y), none, none] ∧ x ∈ ws ∧ y ∈ ws ∧ Two H' p c wa oa ws os ∧ Kp p H H', ?_, ?_⟩
    · refine ⟨_, rfl, _, rfl, any_of (E := E0) t0'.hh t0'.nw t0'.hw t0'.ew t0'.lw fun x H1 hx hh1 k1 => ?_⟩
      have t1 := t0'.kp hh1 k1
      refine ⟨_, rfl, _, rfl, any_of (E := E0) t1.hh t1.nw t1.hw t1.ew t1.lw fun y H2 hy hh2 k2 => ?_⟩
      exact ⟨_, _, rfl, x, y, rfl, hx, hy, t1.kp hh2 k2, (k0.trans k1).trans k2⟩
    · rintro σ2 H2 ⟨x, y, rfl, hx, hy, t2, k2⟩
      refine ⟨_, rfl, _, _, rfl, rfl, _, rfl, ?_⟩
      refine ite2 (fun _ => ?_) (fun e1 => ?_)
      · -- note
        refine ⟨fun σ' H' => ∃ n : Int, σ' = [some (.ref p), some (.ref wa), some (.ref oa), some (.int d), some (.str x), some (.str y), some (.int n), none] ∧ 0 ≤ n ∧ n ≤ 3 ∧ Two H' p c wa oa ws os ∧ Kp p H H', ?_, ?_⟩
        · refine ⟨by decide, fun l nl => ?_⟩
          have sl := same_new (o := .lst [V.int 0, V.int 1, V.int 1, V.int 2, V.int 2, V.int 3]) nl
          have nlp : l ≠ p := by
            obtain ⟨o, e⟩ := t2.hh.some
            exact (ne_of_none e nl).symm
          refine ⟨_, rfl, p, c, 6, rfl, t2.hh.kp sl, by decide, by decide, fun m H3 m0 m6 hh3 ch3 => ?_⟩
          obtain ⟨z, hz, n, rfl, n0, n3⟩ := six m0 m6 (fun z => ∃ n : Int, z = V.int n ∧ 0 ≤ n ∧ n ≤ 3) (a0 := .int 0) (a1 := .int 1) (a2 := .int 1) (a3 := .int 2) (a4 := .int 2) (a5 := .int 3) ⟨0, rfl, by omega, by omega⟩ ⟨1, rfl, by omega, by omega⟩ ⟨1, rfl, by omega, by omega⟩ ⟨2, rfl, by omega, by omega⟩ ⟨2, rfl, by omega, by omega⟩ ⟨3, rfl, by omega, by omega⟩
          exact ⟨l, _, _, _, rfl, rfl, SqL.of (by rw [ch3 l nlp]; exact upd_same), hz, n, rfl, n0, n3, t2.kp hh3 (sl.kp.trans ch3.kp), (k2.same sl).trans ch3.kp⟩
        · rintro σ3 H2' ⟨n, rfl, n0, n3, t2', k2'⟩
          refine ⟨_, rfl, _, rfl, _, rfl, any_of (E := E0) t2'.hh t2'.no t2'.ho t2'.eo t2'.lo fun o H3 ho hh3 k3 => ?_⟩
          have t3 := t2'.kp hh3 k3
          refine lc_into ?_
          refine ⟨_, rfl, _, rfl, by omega, by omega, ?_⟩
          refine lc_overI (p := some p) (as := List.range n.toNat) (Rel := fun _ _ y => ∃ x ∈ ws, y = V.str x) (fun H => HandAt H p c) it_range ?_ (fun _ _ _ _ _ h => h) (fun a e => by cases e; exact t3.hh.some) ?_ (fun D hD => t3.hh.new hD) (fun D H' o hD h => h.away t3.hh hD) (fun _ _ _ _ => trivial) ?_ ?_
          · rw [List.length_map]
          · rw [List.length_map, List.length_range]
            exact Nat.lt_of_lt_of_le (show n.toNat < 4 by omega) (by decide)
          · intro i z e hz he H5 kq pt hh5 R kR
            have t5 := t3.kp hh5 kq.kp
            exact ⟨rfl, _, rfl, _, rfl, any_of (E := E0) t5.hh t5.nw t5.hw t5.ew t5.lw fun x H6 hx hh6 k6 => kR _ _ (Kp.kq k6) (hh5.pt k6) hh6 ⟨x, hx, rfl⟩⟩
          · intro D ys H5 kq pt hh5 nD hD all
            obtain ⟨ps, rfl, hps⟩ := strs_of all
            have hpl : ps.length ≤ 3 := by
              have := all.len
              rw [List.length_range, List.length_map] at this
              omega
            refine ⟨D, _, rfl, .inl ⟨SqL.of hD, fun t nt => ⟨by show 4 ≤ sizeLine; decide, fun q nq => ?_⟩⟩⟩
            have s5 := (same_new (o := .tup (ps.map V.str)) nt).trans (same_new (o := .tup [V.str "note", V.str x, V.str o, V.ref t]) nq)
            have k5 := ((k2'.trans k3).trans kq.kp).same s5
            refine k _ (.note x o ps) _ (hh5.kp s5) k5 (.tup (.inl (.inl upd_same)) (.cons (.str _) (.cons (.str _) (.cons (.str _) (.cons (.tup ((same_new nq).pt.sq (.inl (.inl upd_same))) Tvs.ofStrs) .nil))))) rfl ⟨hx, ho, hpl, hps⟩
      · refine ⟨_, rfl, _, _, rfl, rfl, _, rfl, ?_⟩
        refine ite2 (fun _ => ?_) (fun e2 => ?_)
        · -- copy
          refine ⟨_, rfl, _, rfl, by show 3 ≤ sizeLine; decide, fun q nq => ?_⟩
          have s5 := same_new (o := .tup [V.str "copy", V.str x, V.str y]) nq
          exact k _ (.copy x y) _ (t2.hh.kp s5) (k2.same s5) (.tup (.inl (.inl upd_same)) (.cons (.str _) (.cons (.str _) (.cons (.str _) .nil)))) rfl ⟨hx, hy⟩
        · refine ⟨_, rfl, rfl, _, rfl, ?_⟩
          refine ite2 (fun _ => ?_) (fun e3 => ?_)
          · -- give
            refine ⟨_, rfl, _, rfl, _, rfl, _, _, rfl, rfl, ⟨by decide, by decide, by decide⟩, by show 4 ≤ sizeLine; decide, fun l nl => ?_⟩
            have s3 := same_new (o := .lst [V.int 0, V.int 1, V.int (-7), V.int (10 ^ 29)]) nl
            have nlp : l ≠ p := by
              obtain ⟨o, e⟩ := t2.hh.some
              exact (ne_of_none e nl).symm
            refine ⟨p, c, l, _, rfl, t2.hh.kp s3, .inl ⟨nlp, .inl (SqL.of upd_same)⟩, by simp, by show 4 < 1073741824; decide, fun z H3 hz hh3 ch3 => ?_⟩
            obtain ⟨i, rfl⟩ : ∃ i, z = V.int i := by
              simp only [List.mem_cons, List.not_mem_nil, or_false] at hz
              rcases hz with e | e | e | e <;> exact ⟨_, e⟩
            refine ⟨by show 3 ≤ sizeLine; decide, fun q nq => ?_⟩
            have s5 := same_new (o := .tup [V.str "give", V.str x, V.int i]) nq
            exact k _ (.give x i) _ (hh3.kp s5) (((k2.same s3).trans ch3.kp).same s5) (.tup (.inl (.inl upd_same)) (.cons (.str _) (.cons (.str _) (.cons (.int _) .nil)))) rfl hx
          · refine ⟨_, rfl, rfl, _, rfl, ?_⟩
            refine ite2 (fun _ => ?_) (fun e4 => ?_)
            · refine ⟨_, rfl, by show 2 ≤ sizeLine; decide, fun q nq => ?_⟩
              have s5 := same_new (o := .tup [V.str "print", V.str x]) nq
              exact k _ (.prt x) _ (t2.hh.kp s5) (k2.same s5) (.tup (.inl (.inl upd_same)) (.cons (.str _) (.cons (.str _) .nil))) rfl hx
            · refine ⟨_, rfl, by show 2 ≤ sizeLine; decide, fun q nq => ?_⟩
              have s5 := same_new (o := .tup [V.str "ask", V.str x]) nq
              exact k _ (.ask x) _ (t2.hh.kp s5) (k2.same s5) (.tup (.inl (.inl upd_same)) (.cons (.str _) (.cons (.str _) .nil))) rfl hx
end
end K24
set_option Elab.async false
set_option linter.all false
set_option maxRecDepth 100000
set_option maxHeartbeats 4000000
namespace K24
open PySem PySem.Spec PyProof.Rows L2 ZX PM ZR
abbrev sLSize : Stmt := top 61
def spLSize (K : PySem.W.Frag) (n : Nat) : Sp := fun vs H Q _ => ∃ (v : V) (b : List Rw), vs = [v] ∧ BV K H v b ∧ depB b < n ∧ (rowsB b).length ≤ 1000 ∧ ∀ H', Same H H' → Q (.int ((rowsB b).length : Nat)) H'
theorem word_in (r : Rw) : inV (V.str (wordR r)) [V.str "either", V.str "again"] = !(inner r).isEmpty := by
  rw [word_inner, Bool.not_not]
  show (Str.ofString "either" == wordR r || (Str.ofString "again" == wordR r || false)) = _
  rw [Bool.or_false, BEq.comm, BEq.comm (a := Str.ofString "again")]
theorem inner_of {r : Rw} (h : (inner r).isEmpty = false) {K : PySem.W.Frag} {H : Hp} {tl : List V} (t : Tvs K H tl (argsR r)) : Tvs K H tl ((inner r).map fun b => .tuple (dB b)) := by
  rw [← inner_args r (fun e => by rw [e] at h; cases h)]
  exact t
section
variable {P : Program} {w : World} {K : PySem.W.Frag} {mg : Str → Option Value} {base : Heap}
theorem scLSize : FnScope ["_law_block", "_law_found", "_law_row", "_law_inner_here"] ["_law_block"] (defScope sLSize) := ⟨rfl, rfl, rfl, by decide +kernel, rfl, by decide +kernel, by decide +kernel⟩
theorem ok_lsize0 {f : Addr} {fd : FuncData} (k : Nat) : FnOk P w K mg base CX0 k f fd ["_law_block"] (spLSize K 0) :=
  ⟨fun vs H Q E h => by
    obtain ⟨_, _, _, _, h, _⟩ := h
    exact absurd h (Nat.not_lt_zero _), fun A outer s H args us vs Q E hr e0 hb r h => by
    obtain ⟨_, _, _, _, h, _⟩ := h
    exact absurd h (Nat.not_lt_zero _)⟩
theorem ok_lsize1 {n : Nat} {f : Addr} {fd : FuncData} (F : FnP K "_law_size" sLSize f fd) (T : Bi mg) (C__law_size : Cal P w K mg base "_law_size" (n + 1) ["_law_block"] (spLSize K n)) : FnOk P w K mg base CX0 (n + 2) f fd ["_law_block"] (spLSize K (n + 1)) := by
  refine F.ok scLSize (fun vs H Q E h => ?_) (fun cdv A outer s H vs Q E hr h => ?_)
  · obtain ⟨v, r, rfl, _⟩ := h
    rfl
  · obtain ⟨v, b, rfl, tv, hd, hn, k⟩ := h
    obtain ⟨a, xs, rfl, hS, ht⟩ := tv.tupI
    have hr__law_size := hr
    have hxl : xs.length = b.length := by rw [ht.len, dB_eq, List.length_map]
    refine ⟨_, PSs.nox (pss_cons (ps_set (i := 1) scLSize.nd rfl (Or.inl rfl) pe_int)
    (pss_cons (ps_for PassesOwn.never rfl (pi_tup (pv 0)) (pg_name (i := 2) scLSize.nd rfl (Or.inl rfl)) (pss_cons (ps_set (i := 1) scLSize.nd rfl (Or.inl rfl) (pe_op op_add (pv 1) pe_int))
      (pss_one (ps_if (pt_cmpR op_in_seq (pe_ix ix_tup (pv 2) pe_int (fun _ _ => rfl)) (pe_tup (pa_cons pe_str (pa_cons pe_str pa_nil))) (by with_unfolding_all rfl)) (pss_one (ps_set (i := 1) scLSize.nd rfl (Or.inl rfl) (pe_op op_add (pv 1) (pe_callB (cr_sum rfl) (by rfl) T.b_sum (by decide +kernel) (pa_cons (pe_lcS (own := [("_law_inner_here", 3)]) (g := gName 3) (tt := tYes) (by rfl) scLSize.nd (pi_tup (pe_slice sl_tup (pv 2) (po_some pe_int) po_none)) (blkOk_by (N := ["_law_block", "_law_found", "_law_row", "_law_inner_here"]) (sc := defScope sLSize) (by decide +kernel)) (fun _ _ _ _ _ => (pg_name (i := 3) scLSize.nd rfl (Or.inl rfl))) (fun _ _ _ _ _ => pts_nil) (fun _ _ _ _ _ => (pcal C__law_size hr__law_size rfl (pa_cons (pv 3) pa_nil)))) pa_nil))))) pss_nil))))
    (pss_one (ps_ret (pv 1))))), ?_⟩
    refine ⟨_, rfl, a, rfl, ⟨xs, hS⟩, ?_⟩
    refine for_tup (xs := xs) (fun i σ' H' => ∃ y z, σ' = [some (.ref a), some (.int (((b.take i).flatMap rowsR).length : Nat)), y, z] ∧ Same H H') ⟨_, _, rfl, fun _ _ h => h⟩ ?_ ?_ ?_
    · rintro i σ' H' _ ⟨y, z, rfl, sm⟩
      exact sm.pt.sq hS
    · rintro i x σ' H' hx ⟨y, z, rfl, sm⟩
      obtain ⟨r, hr, tr⟩ := (ht.pt sm.pt).nthR hx
      have hrm : r ∈ b := List.mem_of_getElem? hr
      have hle : ((b.take i).flatMap rowsR ++ rowsR r).length ≤ 1000 := Nat.le_trans (fm_le1 hr) (by rw [← rowsB_eq]; exact hn)
      have htk : ((b.take (i + 1)).flatMap rowsR).length = ((b.take i).flatMap rowsR).length + 1 + ((inner r).flatMap rowsB).length := by
        rw [fm_take hr, rowsR_eq, List.length_append, List.length_cons]
        omega
      obtain ⟨ra, tl, rfl, hrS, hrt⟩ := tr.rowI
      refine ⟨_, rfl, _, _, rfl, rfl, _, rfl, _, _, _, _, rfl, rfl, hrS, at0, by decide, fun t nt => ?_⟩
      have pt := Pt.new (o := .tup [V.str "either", V.str "again"]) nt
      refine ⟨_, _, rfl, .inr (.inl (.inl upd_same)), rfl, rfl, _, rfl, ?_⟩
      show if inV (V.str (wordR r)) [V.str "either", V.str "again"] = true then _ else _
      cases hi : (inner r).isEmpty with
      | true =>
        refine ifBF (by rw [word_in, hi]; rfl) ?_
        refine ⟨some (.ref ra), z, ?_, sm.trans (same_new nt)⟩
        rw [htk, List.isEmpty_iff.mp hi]
        rfl
      | false =>
        refine ifB (by rw [word_in, hi]; rfl) ?_
        have hin := inner_of hi hrt
        refine ⟨_, rfl, ?_⟩
        refine lc_into ?_
        refine ⟨_, rfl, 1, rfl, ra, _, rfl, pt.sq hrS, cut1_ne, fun p np => ⟨p, rfl, ⟨_, .inl (.inl upd_same)⟩, ?_⟩⟩
        have s2 := (same_new (o := .tup [V.str "either", V.str "again"]) nt).trans (same_new (o := .tup (cutV (V.str (wordR r) :: tl) (some 1) none)) np)
        have hpS : SqT K (upd (upd H' t (.tup [V.str "either", V.str "again"])) p (.tup (cutV (V.str (wordR r) :: tl) (some 1) none))) p tl := by
          have e : cutV (V.str (wordR r) :: tl) (some 1) none = tl := cut1
          rw [e]
          exact .inl (.inl upd_same)
        refine lc_overA (p := none) (as := inner r) (zs := tl) (Rel := fun _ c y => y = .int ((rowsB c).length : Nat)) it_tup ?_ (fun _ _ _ _ _ h => h) (fun _ h => nomatch h) ?_ (fun H' _ pt => pt.sq hpS) ?_ ?_
        · rw [hin.len, List.length_map]
        · rw [hin.len, List.length_map]
          cases r <;> simp [inner] at hi ⊢ <;> decide
        · intro j z cb hz hcb H3 kq pt3 R kR
          obtain ⟨cb', hcb', tc⟩ := ((hin.pt s2.pt).pt pt3).nthB hz
          rw [hcb] at hcb'
          cases hcb'
          have hcm : cb ∈ inner r := List.mem_of_getElem? hcb
          have hle2 := fm_le1 (f := rowsB) hcb
          have hdp : depB cb < n := by
            have := dep_inner hcm
            have := depB_mem hrm
            omega
          have hln : (rowsB cb).length ≤ 1000 := by
            rw [rowsR_eq, List.length_append, List.length_cons] at hle
            rw [List.length_append] at hle2
            omega
          exact ⟨rfl, _, rfl, z, cb, rfl, tc, hdp, hln, fun H4 s4 => kR _ _ (Same.kq s4) s4.pt rfl⟩
        · intro D ys H3 kq pt3 nD hD all
          have e := All2.map all
          subst e
          have hsum : (((inner r).map fun c => ((rowsB c).length : Nat)).map fun m : Nat => (m : Int)).sum = (((inner r).flatMap rowsB).length : Nat) := by
            induction inner r with
            | nil => rfl
            | cons c l ih =>
              rw [List.map_cons, List.map_cons, List.sum_cons, ih, List.flatMap_cons, List.length_append]
              omega
          refine ⟨D, ((inner r).map fun c => ((rowsB c).length : Nat)).map fun m : Nat => (m : Int), rfl, SqL.of (by rw [hD, List.map_map, List.map_map]; rfl), ?_⟩
          rw [hsum]
          refine ⟨_, _, rfl, rfl, some (.ref ra), z, ?_, (sm.trans s2).trans kq.same⟩
          rw [htk]
          show [_, some (V.int (_ + 1 + _)), _, _] = _
          congr 3
    · rintro σ' H' ⟨y, z, rfl, sm⟩
      have e : (b.take xs.length).flatMap rowsR = rowsB b := by rw [hxl, List.take_length, ← rowsB_eq]
      rw [e]
      exact ⟨_, rfl, k H' sm⟩
end
end K24
set_option Elab.async false
set_option linter.all false
set_option maxRecDepth 100000
set_option maxHeartbeats 4000000
namespace K24
open PySem PySem.Spec PyProof.Rows L2 ZX PM ZR
abbrev sLInner : Stmt := top 67
/-- all names are words -/
def NmB (ws : List Str) (b : List Rw) : Prop := ∀ x ∈ (rowsB b).flatMap namesR, x ∈ ws
def NmR (ws : List Str) (r : Rw) : Prop := ∀ x ∈ (rowsR r).flatMap namesR, x ∈ ws
theorem NmB.nil {ws : List Str} : NmB ws [] := fun x h => nomatch h
theorem rowsB_snoc (b : List Rw) (r : Rw) : rowsB (b ++ [r]) = rowsB b ++ rowsR r := by
  rw [rowsB_eq, rowsB_eq, List.flatMap_append]
  simp
theorem dB_snoc (b : List Rw) (r : Rw) : dB (b ++ [r]) = dB b ++ [dR r] := by
  rw [dB_eq, dB_eq, List.map_append]
  rfl
theorem NmB.snoc {ws : List Str} {b : List Rw} {r : Rw} (h : NmB ws b) (k : NmR ws r) : NmB ws (b ++ [r]) := fun x hx => by
  rw [rowsB_snoc, List.flatMap_append] at hx
  exact (List.mem_append.mp hx).elim (h x) (k x)
theorem okB_snoc {d : Nat} {r : Rw} : ∀ {b : List Rw}, okB d b → okR d r → okB d (b ++ [r])
  | [], _, k => ⟨k, trivial⟩
  | _ :: _, h, k => ⟨h.1, okB_snoc h.2 k⟩
theorem NmR.either {ws : List Str} {a b : List Rw} (h : NmB ws a) (k : NmB ws b) : NmR ws (.either a b) := fun x hx => by
  rw [rowsR, List.flatMap_cons, List.flatMap_append] at hx
  rcases List.mem_append.mp hx with hx | hx
  · cases hx
  · exact (List.mem_append.mp hx).elim (h x) (k x)
theorem NmR.again {ws : List Str} {a : List Rw} (h : NmB ws a) : NmR ws (.again a) := fun x hx => by
  rw [rowsR, List.flatMap_cons] at hx
  rcases List.mem_append.mp hx with hx | hx
  · cases hx
  · exact h x hx
/-- a plain row that was drawn -/
theorem DrR.ok {ws os : List Str} {r : Rw} {d : Nat} (h : DrR ws os r) (hi : inner r = []) (hw : ∀ x ∈ ws, NameOk x) (ho : ∀ x ∈ os, NameOk x) : okR d r ∧ NmR ws r ∧ (rowsR r).length = 1 := by
  have e : rowsR r = [r] := by rw [rowsR_eq, hi]; rfl
  have nm : (∀ x ∈ namesR r, x ∈ ws) → NmR ws r := fun q x hx => by
    rw [e, List.flatMap_cons, List.flatMap_nil, List.append_nil] at hx
    exact q x hx
  cases r with
  | note x o ps => exact ⟨⟨hw _ h.1, ho _ h.2.1, h.2.2.1, fun y hy => hw _ (h.2.2.2 y hy)⟩, nm fun y hy => (List.mem_cons.mp hy).elim (fun e => e ▸ h.1) (h.2.2.2 y), by rw [e]; rfl⟩
  | copy x y => exact ⟨⟨hw _ h.1, hw _ h.2⟩, nm fun z hz => by
      simp [namesR] at hz
      rcases hz with rfl | rfl
      · exact h.1
      · exact h.2, by rw [e]; rfl⟩
  | give x i => exact ⟨hw _ h, nm fun z hz => by
      simp [namesR] at hz
      subst hz
      exact h, by rw [e]; rfl⟩
  | ask x => exact ⟨hw _ h, nm fun z hz => by
      simp [namesR] at hz
      subst hz
      exact h, by rw [e]; rfl⟩
  | prt x => exact ⟨hw _ h, nm fun z hz => by
      simp [namesR] at hz
      subst hz
      exact h, by rw [e]; rfl⟩
  | either a b => cases hi
  | again a => cases hi
/-- a block that was drawn within a row -/
structure DrnI (ws : List Str) (d : Nat) (b : List Rw) : Prop where
  ok2 : okB 2 b
  ok3 : d = 3 → okB 3 b
  nm : NmB ws b
  le : (rowsB b).length ≤ if d = 2 then 20 else 2
  l4 : b.length ≤ 4
theorem DrnI.nil {ws : List Str} {d : Nat} : DrnI ws d [] := ⟨trivial, fun _ => trivial, .nil, Nat.zero_le _, Nat.zero_le _⟩
def spLInner (K : PySem.W.Frag) (n : Nat) : Sp := fun vs H Q _ => ∃ (p c wa oa : Addr) (ws os : List Str) (d : Nat), vs = [.ref p, .ref wa, .ref oa, .int d] ∧ Two H p c wa oa ws os ∧ (∀ x ∈ ws, NameOk x) ∧ (∀ x ∈ os, NameOk x) ∧ 2 ≤ d ∧ d ≤ 3 ∧ d + n = 4 ∧
  ∀ v b H', HandAt H' p c → Kp p H H' → BV K H' v b → DrnI ws d b → Q v H'
/-- what stands between two turns -/
structure InB (K : PySem.W.Frag) (p c l : Addr) (ws : List Str) (d : Nat) (H0 : Hp) (i : Nat) (us : List V) (b : List Rw) (H : Hp) : Prop where
  hh : HandAt H p c
  kp : Kp p H0 H
  hl : H l = some (.lst us)
  hu : Tvs K H us (dB b)
  ok2 : okB 2 b
  ok3 : d = 3 → okB 3 b
  nm : NmB ws b
  le : (rowsB b).length ≤ (if d = 2 then 5 else 1) * i
  ln : b.length ≤ i
theorem InB.mv {K : PySem.W.Frag} {p c l : Addr} {ws : List Str} {d : Nat} {H0 : Hp} {i : Nat} {us : List V} {b : List Rw} {H H' : Hp} (h : InB K p c l ws d H0 i us b H) (ne : l ≠ p) (hh : HandAt H' p c) (k : Kp p H H') : InB K p c l ws d H0 i us b H' :=
  ⟨hh, h.kp.trans k, k _ _ ne h.hl, h.hu.pt (h.hh.pt k), h.ok2, h.ok3, h.nm, h.le, h.ln⟩
theorem InB.app {K : PySem.W.Frag} {p c l : Addr} {ws : List Str} {d : Nat} {H0 : Hp} {i : Nat} {us : List V} {b : List Rw} {H : Hp} (h : InB K p c l ws d H0 i us b H) (hh0 : HandAt H0 p c) (nl : H0 l = none) {v : V} {r : Rw} (tv : RV K H v r) (o2 : okR 2 r) (o3 : d = 3 → okR 3 r) (nm : NmR ws r) (le : (rowsR r).length ≤ if d = 2 then 5 else 1) :
    InB K p c l ws d H0 (i + 1) (us ++ [v]) (b ++ [r]) (upd H l (.lst (us ++ [v]))) := by
  refine ⟨h.hh.away hh0 nl, fun b' u nb e => ?_, upd_same, ?_, okB_snoc h.ok2 o2, fun e => okB_snoc (h.ok3 e) (o3 e), h.nm.snoc nm, ?_, ?_⟩
  · rw [upd_ne (ne_of_none e nl)]
    exact h.kp b' u nb e
  · rw [dB_snoc]
    exact Tvs.app (h.hu.pt (Pt.lst h.hl)) (.cons (tv.pt (Pt.lst h.hl)) .nil)
  · rw [rowsB_snoc, List.length_append, Nat.mul_succ]
    exact Nat.add_le_add h.le le
  · rw [List.length_append]
    have := h.ln
    show b.length + 1 ≤ i + 1
    omega
def InMid (K : PySem.W.Frag) (p c wa oa l : Addr) (ws : List Str) (d : Nat) (H0 : Hp) (i : Nat) (σ : L2.St) (H : Hp) : Prop := ∃ (us : List V) (b : List Rw) (y5 y6 y7 y8 : Option V),
  σ = [some (.ref p), some (.ref wa), some (.ref oa), some (.int d), some (.ref l), y5, y6, y7, y8] ∧ InB K p c l ws d H0 i us b H
section
variable {P : Program} {w : World} {K : PySem.W.Frag} {mg : Str → Option Value} {base : Heap}
theorem scInner : FnScope ["_law_hand_here", "_law_menu", "_law_ops", "_law_deep", "_law_found", "_law_turn", "_law_kind", "_law_one", "_law_two"] ["_law_hand_here", "_law_menu", "_law_ops", "_law_deep"] (defScope sLInner) := ⟨rfl, rfl, rfl, by decide +kernel, rfl, by decide +kernel, by decide +kernel⟩
theorem ok_linner0 {f : Addr} {fd : FuncData} (k : Nat) : FnOk P w K mg base CX0 k f fd ["_law_hand_here", "_law_menu", "_law_ops", "_law_deep"] (spLInner K 0) :=
  ⟨fun vs H Q E h => by
    obtain ⟨_, _, _, _, _, _, d, _, _, _, _, h1, h2, h3, _⟩ := h
    omega, fun A outer s H args us vs Q E hr e0 hb r h => by
    obtain ⟨_, _, _, _, _, _, d, _, _, _, _, h1, h2, h3, _⟩ := h
    omega⟩
theorem ok_linner1 {n : Nat} {f : Addr} {fd : FuncData} (F : FnP K "_law_inner" sLInner f fd) (T : Bi mg) (C__law_draw : Cal P w K mg base "_law_draw" 1 ["_law_hand_here", "_law_many"] spDraw) (C__law_plain : Cal P w K mg base "_law_plain" 3 ["_law_hand_here", "_law_menu", "_law_ops"] (spLPlain K))
    (C__law_inner : Cal P w K mg base "_law_inner" (n + 3) ["_law_hand_here", "_law_menu", "_law_ops", "_law_deep"] (spLInner K n)) : FnOk P w K mg base CX0 (n + 4) f fd ["_law_hand_here", "_law_menu", "_law_ops", "_law_deep"] (spLInner K (n + 1)) := by
  refine F.ok scInner (fun vs H Q E h => ?_) (fun cdv A outer s H vs Q E hr h => ?_)
  · obtain ⟨p, c, wa, oa, ws, os, d, rfl, _⟩ := h
    rfl
  · obtain ⟨p, c, wa, oa, ws, os, d, rfl, t0, hw, ho, d2, d3, dn, k⟩ := h
    have hr__law_draw := hr.mono (show 1 ≤ n + 3 by omega)
    have hr__law_plain := hr.mono (show 3 ≤ n + 3 by omega)
    have hr__law_inner := hr
    refine ⟨_, PSs.nox (pss_cons (ps_set (i := 4) scInner.nd rfl (Or.inl rfl) (pe_lst pa_nil))
    (pss_cons (ps_for PassesOwn.never rfl (pi_range1 rfl T.b_range (pa_cons (pe_op op_add pe_int (pcal C__law_draw hr__law_draw rfl (pa_cons (pv 0) (pa_cons (pe_cut (pe_ifExp (pt_cmpR op_eq (pv 3) pe_int (nomark _)) pe_int pe_int)) pa_nil)))) pa_nil)) (pg_name (i := 5) scInner.nd rfl (Or.inl rfl)) (pss_cut (ps_set (i := 6) scInner.nd rfl (Or.inl rfl) (pcal C__law_draw hr__law_draw rfl (pa_cons (pv 0) (pa_cons pe_int pa_nil))))
      (pss_one (ps_if (pt_cut (PW.pt (pw_and (pt_cmpR op_eq (pv 3) pe_int (nomark _)) (pw_and1 (pt_cmpR op_eq (pv 6) pe_int (nomark _)))))) (pss_cut (ps_set (i := 7) scInner.nd rfl (Or.inl rfl) (pcal C__law_inner hr__law_inner rfl (pa_cons (pv 0) (pa_cons (pv 1) (pa_cons (pv 2) (pa_cons pe_int pa_nil))))))
        (pss_cut (ps_set (i := 8) scInner.nd rfl (Or.inl rfl) (pe_ifExp (pt_cmpR op_eq (pcal C__law_draw hr__law_draw rfl (pa_cons (pv 0) (pa_cons pe_int pa_nil))) pe_int (nomark _)) (pe_tup pa_nil) (pcal C__law_inner hr__law_inner rfl (pa_cons (pv 0) (pa_cons (pv 1) (pa_cons (pv 2) (pa_cons pe_int pa_nil)))))))
        (pss_one (ps_expr (pe_bm PySem.F.plainAttrs_list PySem.F.slot_list_append PySem.F.type_list_append mt_append (pv 4) (pa_cons (pe_cut (pe_ifExp (pt_cmpR op_eq (pcal C__law_draw hr__law_draw rfl (pa_cons (pv 0) (pa_cons pe_int pa_nil))) pe_int (nomark _)) (pe_tup (pa_cons pe_str (pa_cons (pv 7) (pa_cons (pv 8) pa_nil)))) (pe_tup (pa_cons pe_str (pa_cons (pv 8) (pa_cons (pv 7) pa_nil)))))) pa_nil)))))) (pss_one (ps_if (pt_cut (PW.pt (pw_and (pt_cmpR op_eq (pv 3) pe_int (nomark _)) (pw_and1 (pt_cmpR op_eq (pv 6) pe_int (nomark _)))))) (pss_one (ps_expr (pe_bm PySem.F.plainAttrs_list PySem.F.slot_list_append PySem.F.type_list_append mt_append (pv 4) (pa_cons (pe_tup (pa_cons pe_str (pa_cons (pcal C__law_inner hr__law_inner rfl (pa_cons (pv 0) (pa_cons (pv 1) (pa_cons (pv 2) (pa_cons pe_int pa_nil))))) pa_nil))) pa_nil)))) (pss_one (ps_expr (pe_bm PySem.F.plainAttrs_list PySem.F.slot_list_append PySem.F.type_list_append mt_append (pv 4) (pa_cons (pcal C__law_plain hr__law_plain rfl (pa_cons (pv 0) (pa_cons (pv 1) (pa_cons (pv 2) pa_nil)))) pa_nil))))))))))
    (pss_one (ps_ret (pe_callTy call_tuple_of (by rfl) T.b_tuple (by decide +kernel) (pa_cons (pv 4) pa_nil)))))), ?_⟩
    refine ⟨by decide, fun l nl => ?_⟩
    have sl := same_new (o := .lst []) nl
    have nlp : l ≠ p := by
      obtain ⟨o, e⟩ := t0.hh.some
      exact (ne_of_none e nl).symm
    refine ⟨_, rfl, ?_⟩
    refine ⟨fun v H' => (∃ j : Int, v = .int j ∧ (j = 4 ∧ d = 2 ∨ j = 2)) ∧ H' = upd H l (.lst []), ?_, ?_⟩
    · refine ⟨_, rfl, rfl, _, rfl, ?_⟩
      refine ite2 (fun e => ?_) (fun _ => ?_)
      · exact ⟨⟨4, rfl, .inl ⟨rfl, by
          have := V.int.inj (of_decide_eq_true e)
          omega⟩⟩, rfl⟩
      · exact ⟨⟨2, rfl, .inr rfl⟩, rfl⟩
    rintro v H1 ⟨⟨j, rfl, hj⟩, rfl⟩
    refine ⟨p, c, j, rfl, t0.hh.kp sl, by omega, by omega, fun e H2 e0 ej hh2 ch2 => ?_⟩
    refine ⟨_, _, rfl, rfl, _, rfl, by omega, by omega, ?_⟩
    refine for_range (fun i => InMid K p c wa oa l ws d H i) ⟨[], [], _, _, _, _, rfl, hh2, sl.kp.trans ch2.kp, by rw [ch2 l nlp]; exact upd_same, .nil, trivial, fun _ => trivial, .nil, Nat.zero_le _, Nat.zero_le _⟩ ?_ ?_
    · rintro i σ' H' hi ⟨us, b, y5, y6, y7, y8, rfl, B0⟩
      refine ⟨fun σ3 H3 => ∃ m : Int, σ3 = [some (.ref p), some (.ref wa), some (.ref oa), some (.int d), some (.ref l), some (.int (0 + (i : Nat))), some (.int m), y7, y8] ∧ InB K p c l ws d H i us b H3, ?_, ?_⟩
      · exact ⟨_, rfl, p, c, 6, rfl, B0.hh, by decide, by decide, fun m H3 _ _ hh3 ch3 => ⟨m, rfl, B0.mv nlp hh3 ch3.kp⟩⟩
      rintro σ3 H3 ⟨m, rfl, B1⟩
      have lus : us.length < sizeLine := by
        have e1 := B1.hu.len
        rw [dB_eq, List.length_map] at e1
        have := B1.ln
        exact Nat.lt_of_lt_of_le (show us.length < 5 by omega) (by decide)
      have t3 := t0.kp B1.hh B1.kp
      refine ⟨fun b' H' => H' = H3 ∧ (b' = true → d = 2), ?_, ?_⟩
      · refine ⟨_, rfl, rfl, _, rfl, ?_⟩
        refine ite2 (fun e => ?_) (fun _ => ⟨rfl, fun z => nomatch z⟩)
        exact ⟨_, rfl, rfl, _, rfl, rfl, fun _ => by
          have := V.int.inj (of_decide_eq_true e)
          omega⟩
      rintro b' H3' ⟨rfl, hb'⟩
      cases b' with
      | true =>
        have hd := hb' rfl
        subst hd
        refine ifB rfl ?_
        refine ⟨fun σ4 H4 => ∃ v1 b1, σ4 = [some (.ref p), some (.ref wa), some (.ref oa), some (.int (2 : Nat)), some (.ref l), some (.int (0 + (i : Nat))), some (.int m), some v1, y8] ∧ InB K p c l ws 2 H i us b H4 ∧ BV K H4 v1 b1 ∧ DrnI ws 3 b1, ?_, ?_⟩
        · exact ⟨_, rfl, _, rfl, _, rfl, p, c, wa, oa, ws, os, 3, rfl, t3, hw, ho, by decide, by decide, by omega, fun v1 b1 H4 hh4 k4 tv1 D1 => ⟨v1, b1, rfl, B1.mv nlp hh4 k4, tv1, D1⟩⟩
        rintro σ4 H4 ⟨v1, b1, rfl, B4, tv1, D1⟩
        refine ⟨fun σ5 H5 => ∃ v2 b2, σ5 = [some (.ref p), some (.ref wa), some (.ref oa), some (.int (2 : Nat)), some (.ref l), some (.int (0 + (i : Nat))), some (.int m), some v1, some v2] ∧ InB K p c l ws 2 H i us b H5 ∧ BV K H5 v1 b1 ∧ BV K H5 v2 b2 ∧ DrnI ws 3 b2, ?_, ?_⟩
        · refine ⟨_, rfl, p, c, 3, rfl, B4.hh, by decide, by decide, fun z H5 _ _ hh5 ch5 => ?_⟩
          have B5 := B4.mv nlp hh5 ch5.kp
          have tv5 := tv1.pt (B4.hh.pt ch5.kp)
          refine ⟨rfl, _, rfl, ?_⟩
          refine ite2 (fun _ => ?_) (fun _ => ?_)
          · refine ⟨by decide, fun q nq => ?_⟩
            have sq := same_new (o := .tup []) nq
            exact ⟨_, [], rfl, B5.mv nlp (B5.hh.kp sq) sq.kp, tv5.pt sq.pt, .tup (.inl (.inl upd_same)) .nil, .nil⟩
          · exact ⟨_, rfl, _, rfl, _, rfl, p, c, wa, oa, ws, os, 3, rfl, t0.kp B5.hh B5.kp, hw, ho, by decide, by decide, by omega, fun v2 b2 H6 hh6 k6 tv2 D2 => ⟨v2, b2, rfl, B5.mv nlp hh6 k6, tv5.pt (B5.hh.pt k6), tv2, D2⟩⟩
        rintro σ5 H5 ⟨v2, b2, rfl, B5, tv1, tv2, D2⟩
        refine ⟨_, rfl, .inl ⟨rfl, _, SqL.of B5.hl⟩, ?_⟩
        refine ⟨fun v H6 => ∃ r, InB K p c l ws 2 H i us b H6 ∧ RV K H6 v r ∧ okR 2 r ∧ NmR ws r ∧ (rowsR r).length ≤ 5, ?_, ?_⟩
        · refine ⟨_, rfl, p, c, 2, rfl, B5.hh, by decide, by decide, fun z H6 _ _ hh6 ch6 => ?_⟩
          have B6 := B5.mv nlp hh6 ch6.kp
          have pt6 := B5.hh.pt ch6.kp
          have l1 := D1.le
          have l2 := D2.le
          have m1 := D1.l4
          have m2 := D2.l4
          simp at l1 l2
          refine ⟨rfl, _, rfl, ?_⟩
          refine ite2 (fun _ => ?_) (fun _ => ?_)
          · refine ⟨_, rfl, _, rfl, by show 3 ≤ sizeLine; decide, fun q nq => ?_⟩
            have sq := same_new (o := .tup [V.str "either", v1, v2]) nq
            refine ⟨.either b1 b2, B6.mv nlp (B6.hh.kp sq) sq.kp, .tup (.inl (.inl upd_same)) (.cons (.str _) (.cons ((tv1.pt pt6).pt sq.pt) (.cons ((tv2.pt pt6).pt sq.pt) .nil))), ⟨by decide, by omega, by omega, D1.ok3 rfl, D2.ok3 rfl⟩, NmR.either D1.nm D2.nm, ?_⟩
            rw [rowsR, List.length_cons, List.length_append]
            omega
          · refine ⟨_, rfl, _, rfl, by show 3 ≤ sizeLine; decide, fun q nq => ?_⟩
            have sq := same_new (o := .tup [V.str "either", v2, v1]) nq
            refine ⟨.either b2 b1, B6.mv nlp (B6.hh.kp sq) sq.kp, .tup (.inl (.inl upd_same)) (.cons (.str _) (.cons ((tv2.pt pt6).pt sq.pt) (.cons ((tv1.pt pt6).pt sq.pt) .nil))), ⟨by decide, by omega, by omega, D2.ok3 rfl, D1.ok3 rfl⟩, NmR.either D2.nm D1.nm, ?_⟩
            rw [rowsR, List.length_cons, List.length_append]
            omega
        · rintro v H6 ⟨r, B6, tv, o2, nm, le⟩
          exact ⟨l, us, v, rfl, rfl, B6.hl, lus, us ++ [v], b ++ [r], _, _, _, _, rfl, B6.app t0.hh nl tv o2 (fun e => absurd e (by decide)) nm le⟩
      | false =>
        refine ifBF rfl ?_
        refine ⟨fun b' H' => H' = H3' ∧ (b' = true → d = 2), ?_, ?_⟩
        · refine ⟨_, rfl, rfl, _, rfl, ?_⟩
          refine ite2 (fun e => ?_) (fun _ => ⟨rfl, fun z => nomatch z⟩)
          exact ⟨_, rfl, rfl, _, rfl, rfl, fun _ => by
            have := V.int.inj (of_decide_eq_true e)
            omega⟩
        rintro b' H4 ⟨rfl, hb'⟩
        cases b' with
        | true =>
          have hd := hb' rfl
          subst hd
          refine ifB rfl ?_
          refine ⟨_, rfl, .inl ⟨rfl, _, SqL.of B1.hl⟩, _, rfl, _, rfl, _, rfl, p, c, wa, oa, ws, os, 3, rfl, t3, hw, ho, by decide, by decide, by omega, fun v1 b1 H5 hh5 k5 tv1 D1 => ⟨by show 2 ≤ sizeLine; decide, fun q nq => ?_⟩⟩
          have B5 := B1.mv nlp hh5 k5
          have sq := same_new (o := .tup [V.str "again", v1]) nq
          have l1 := D1.le
          have m1 := D1.l4
          simp at l1
          have B6 := B5.mv nlp (B5.hh.kp sq) sq.kp
          refine ⟨l, us, _, rfl, rfl, B6.hl, lus, us ++ [.ref q], b ++ [.again b1], _, _, _, _, rfl, B6.app t0.hh nl (r := .again b1) (.tup (.inl (.inl upd_same)) (.cons (.str _) (.cons (tv1.pt sq.pt) .nil))) ⟨by decide, by omega, D1.ok3 rfl⟩ (fun e => absurd e (by decide)) (NmR.again D1.nm) ?_⟩
          rw [rowsR, List.length_cons]
          simp
          omega
        | false =>
          refine ifBF rfl ?_
          refine ⟨_, rfl, .inl ⟨rfl, _, SqL.of B1.hl⟩, _, rfl, _, rfl, _, rfl, p, c, wa, oa, ws, os, rfl, t3, fun v r H5 hh5 k5 tv hi hdr => ?_⟩
          have B5 := B1.mv nlp hh5 k5
          have q2 := hdr.ok (d := 2) hi hw ho
          have q3 := hdr.ok (d := 3) hi hw ho
          refine ⟨l, us, v, rfl, rfl, B5.hl, lus, us ++ [v], b ++ [r], _, _, _, _, rfl, B5.app t0.hh nl tv q2.1 (fun _ => q3.1) q2.2.1 ?_⟩
          rw [q2.2.2]
          split <;> decide
    · rintro σ' H' ⟨us, b, y5, y6, y7, y8, rfl, B1⟩
      refine ⟨_, rfl, l, _, rfl, .inl ⟨SqL.of B1.hl, fun t nt => ?_⟩⟩
      have st := same_new (o := .tup us) nt
      refine k _ b _ (B1.hh.kp st) (B1.kp.same st) (.tup (.inl (.inl upd_same)) (B1.hu.pt st.pt)) ⟨B1.ok2, B1.ok3, B1.nm, ?_, ?_⟩
      · refine Nat.le_trans B1.le ?_
        rcases hj with ⟨rfl, rfl⟩ | rfl
        · show 5 * _ ≤ 20
          omega
        · split <;> omega
      · have := B1.ln
        omega
end
end K24
set_option Elab.async false
set_option linter.all false
set_option maxRecDepth 100000
set_option maxHeartbeats 4000000
/-! Rules of my own: tuples joined and cut (some tuple of these items), == with the empty tuple, list comprehensions over pairs. -/
namespace ZR
open PySem PySem.Spec PyProof.Rows L2 ZX PM RZ
theorem cutV_whole {xs : List V} {lo hi : Option Int} (h : HT.sIx xs.length 0 lo = 0 ∧ HT.sIx xs.length xs.length hi = xs.length) : cutV xs lo hi = xs := by
  unfold cutV
  rw [h.1, h.2]
  simp
section
variable {X : Cx}
/-- t + u: some tuple of these items -/
def rCatZ (K : PySem.W.Frag) : R2 := fun x y H Q => ∃ a b xs ys, x = .ref a ∧ y = .ref b ∧ SqT K H a xs ∧ SqT K H b ys ∧ xs.length + ys.length ≤ sizeLine ∧ ∀ q H', Same H H' → SqT K H' q (xs ++ ys) → Q (.ref q) H'
theorem op_catZ : OpR X (binaryOp .Add) (rCatZ X.K) := by
  intro pins s σ H x y v u Q I rx ry h
  obtain ⟨a, b, xs, ys, rfl, rfl, ha, hb, hz, q⟩ := h
  refine op_catA pins s σ H _ _ v u Q I rx ry ⟨a, b, xs, ys, rfl, rfl, ha, hb, hz, fun e => ?_, fun _ e => ?_, fun _ _ p np => ?_⟩
  · exact q b H (fun _ _ h => h) (by rw [e]; exact hb)
  · exact q a H (fun _ _ h => h) (by rw [e, List.append_nil]; exact ha)
  · exact q p _ (same_new np) (.inl (.inl upd_same))
/-- t[lo:hi]: some tuple of these items -/
def rSlZ (K : PySem.W.Frag) : V → Option Int → Option Int → Hp → VK → Prop := fun x lo hi H Q => ∃ a xs, x = .ref a ∧ SqT K H a xs ∧ ∀ q H', Same H H' → SqT K H' q (cutV xs lo hi) → Q (.ref q) H'
theorem sl_tupZ : L2.SlR X (rSlZ X.K) := by
  intro pins s σ H x v vl vu lo hi sl Q I rx hs pl pu h
  obtain ⟨a, xs, rfl, hx, q⟩ := h
  refine sl_tupA pins s σ H _ v vl vu lo hi sl Q I rx hs pl pu ⟨a, xs, rfl, hx, fun e => ?_, fun _ p np => ?_⟩
  · exact q a H (fun _ _ h => h) (by rw [cutV_whole e]; exact hx)
  · exact q p _ (same_new np) (.inl (.inl upd_same))
/-- t == () -/
def rEqEmp (K : PySem.W.Frag) : R2 := fun x y H Q => ∃ a b xs, x = .ref a ∧ y = .ref b ∧ SqT K H a xs ∧ SqT K H b [] ∧ Q (.bl xs.isEmpty) H
theorem op_eqEmp (hu : X.A.units < cLine) : OpR X (compareOp .Eq) (rEqEmp X.K) := by
  intro pins s σ H x y v u Q I rx ry h
  obtain ⟨a, b, xs, rfl, rfl, ha, hb, q⟩ := h
  cases rx
  cases ry
  obtain ⟨its, r1, p1, _⟩ := I.tuple ha
  obtain ⟨its2, r2, p2, _⟩ := I.tuple hb
  cases r2
  show wpAny (model X.prog X.w) X.A (richCompare .Eq (.ref a) (.ref b)) (EP X pins σ Q) X.xe s
  refine SeqAt.RcAt.tuples (e := fun _ => true) p1 p2 hu (fun j h1 h2 => absurd h2 (Nat.not_lt_zero _)) X.prog X.w _ _ ?_
  have e : ((List.range (min its.toArray.size ([] : List Value).toArray.size)).all (fun _ => true) && its.toArray.size == ([] : List Value).toArray.size) = xs.isEmpty := by
    have hl := r1.length
    cases xs with
    | nil =>
      have : its = [] := List.length_eq_zero_iff.mp hl.symm
      subst this
      rfl
    | cons y ys =>
      cases its with
      | nil => cases hl
      | cons i is => simp
  rw [e]
  exact ⟨.bl _, H, I, rfl, q⟩
end
/-- J walks n turns as long as St holds; each turn gives what Y says -/
structure IterY (J : It) (n : Nat) (St : Hp → Prop) (Y : Nat → V → Hp → Prop) : Prop where
  stop : ∀ H, St H → J.stop n H
  go : ∀ i H, St H → i < n → J.go i H
  yld : ∀ i H v H', St H → i < n → J.yld i H v H' → Same H H' ∧ Y i v H'
theorem it_zipT {K : PySem.W.Frag} {a b : Addr} {xs ys : List V} : IterY (ItzT K a b) (min xs.length ys.length) (fun H => SqT K H a xs ∧ SqT K H b ys) (fun i v H => ∃ T x y, v = .ref T ∧ H T = some (.tup [x, y]) ∧ xs[i]? = some x ∧ ys[i]? = some y) := by
  refine ⟨fun H h => ⟨xs, ys, h.1, h.2, by omega⟩, fun i H h l => ⟨xs, ys, xs[i]'(by omega), ys[i]'(by omega), h.1, h.2, List.getElem?_eq_getElem _, List.getElem?_eq_getElem _⟩, fun i H v H' h l y => ?_⟩
  obtain ⟨T, x, y, rfl, nT, rfl, hx, hy⟩ := y
  exact ⟨same_new nT, T, x, y, rfl, upd_same, hx xs h.1, hy ys h.2⟩
section
variable {J : It} {n : Nat} {St : Hp → Prop} {Y : Nat → V → Hp → Prop} {g : TG} {te : TE} {vs : List Nat} {σ : L2.St} {H1 : Hp} {Q : VK}
theorem lc_overY {α : Type} {as : List α} {Rel : Hp → α → V → Prop} (O : IterY J n St Y) (hz : as.length = n) (hRel : ∀ c y H H', Pt H H' → Rel H c y → Rel H' c y) (hlen : n < sizeLine)
    (st : ∀ H', Same H1 H' → Pt H1 H' → St H')
    (step : ∀ (i : Nat) x c, as[i]? = some c → ∀ H', Same H1 H' → Pt H1 H' → Y i x H' → ∀ R : VK, (∀ y H'', Same H' H'' → Rel H'' c y → R y H'') → g x (wipe σ vs) H' fun σ2 H2 => wipe σ2 vs = wipe σ vs ∧ te σ2 H2 R)
    (fin : ∀ D ys H', Same H1 H' → Pt H1 H' → H1 D = none → H' D = some (.lst ys) → All2 (Rel H') as ys → Q (.ref D) H') :
    tLcS (fun _ _ R => R J H1) g tYes te vs σ H1 Q := by
  rw [lcS]
  intro D hD
  refine ⟨fun i m H => m = n - i ∧ i ≤ n ∧ Same H1 H ∧ Pt H1 H ∧ ∃ ys, H D = some (.lst ys) ∧ All2 (Rel H) (as.take i) ys, ⟨n, rfl, Nat.zero_le _, same_new hD, Pt.new hD, [], upd_same, by rw [List.take_zero]; exact .nil⟩, ?_⟩
  rintro i m H ⟨rfl, hi, sm, pt, ys, hys, all⟩
  have hst := st H sm pt
  by_cases hlt : i < n
  · refine .inr ⟨O.go i H hst hlt, fun H' => i + 1 ≤ n ∧ Same H1 H' ∧ Pt H1 H' ∧ ∃ ys, H' D = some (.lst ys) ∧ All2 (Rel H') (as.take (i + 1)) ys, fun H' h => ⟨n - (i + 1), by omega, rfl, h⟩, fun x H' y => ?_⟩
    obtain ⟨sy, hx⟩ := O.yld i H x H' hst hlt y
    have hia : i < as.length := by omega
    have hc : as[i]? = some as[i] := List.getElem?_eq_getElem hia
    show g x (wipe σ vs) H' fun σ2 H2 => wipe σ2 vs = wipe σ vs ∧ tYes σ2 H2 fun b H3 => if b = true then te σ2 H3 _ else _
    refine step i x as[i] hc H' (sm.trans sy) (pt.trans sy.pt) hx _ fun y H'' s2 r => ?_
    have hD2 := s2 _ _ (sy _ _ hys)
    have pD : Pt H'' (upd H'' D (.lst (ys ++ [y]))) := Pt.lst hD2
    have ptk : as.take (i + 1) = as.take i ++ [as[i]] := by
      rw [List.take_succ, hc]
      rfl
    have hl2 : ys.length < sizeLine := by
      rw [← all.len, List.length_take]
      omega
    refine ⟨ys, hD2, hl2, hlt, ((sm.trans sy).trans s2).put hD, ((pt.trans sy.pt).trans s2.pt).trans pD, ys ++ [y], upd_same, ?_⟩
    rw [ptk]
    exact All2.snoc (hRel _ _ _ _ pD r) (all.imp fun a b q => hRel _ _ _ _ ((sy.pt.trans s2.pt).trans pD) q)
  · have e : i = n := by omega
    subst e
    rw [← hz, List.take_length] at all
    exact .inl ⟨O.stop H hst, fin D ys H sm pt hD hys all⟩
end
end ZR
set_option Elab.async false
set_option linter.all false
set_option maxRecDepth 100000
set_option maxHeartbeats 4000000
namespace K24
open PySem PySem.Spec PyProof.Rows L2 ZX PM ZR
abbrev sLWide : Stmt := top 68
theorem okB_app {d : Nat} : ∀ {a b : List Rw}, okB d a → okB d b → okB d (a ++ b)
  | [], _, _, k => k
  | _ :: _, _, h, k => ⟨h.1, okB_app h.2 k⟩
theorem rowsB_app (a b : List Rw) : rowsB (a ++ b) = rowsB a ++ rowsB b := by
  rw [rowsB_eq, rowsB_eq, rowsB_eq, List.flatMap_append]
theorem dB_app (a b : List Rw) : dB (a ++ b) = dB a ++ dB b := by
  rw [dB_eq, dB_eq, dB_eq, List.map_append]
theorem NmB.app {ws : List Str} {a b : List Rw} (h : NmB ws a) (k : NmB ws b) : NmB ws (a ++ b) := fun x hx => by
  rw [rowsB_app, List.flatMap_append] at hx
  exact (List.mem_append.mp hx).elim (h x) (k x)
theorem HandAt.free {H H' : Hp} {p c D : Addr} (hh : HandAt H' p c) (k : Kp p H H') (n : H' D = none) : H D = none := by
  cases e : H D with
  | none => rfl
  | some o =>
    have nD : D ≠ p := by
      obtain ⟨o', e'⟩ := hh.some
      exact (ne_of_none e' n).symm
    rw [k _ _ nD e] at n
    cases n
theorem HandAt.nep {H : Hp} {p c x : Addr} (hh : HandAt H p c) (n : H x = none) : x ≠ p := by
  obtain ⟨o, e⟩ := hh.some
  exact (ne_of_none e n).symm
/-- plain rows of some words -/
structure Pln (ws : List Str) (b : List Rw) : Prop where
  ok : ∀ d, okB d b
  nm : NmB ws b
  le : (rowsB b).length = b.length
theorem plain_blk {K : PySem.W.Frag} {H : Hp} {ws os : List Str} (hw : ∀ x ∈ ws, NameOk x) (ho : ∀ x ∈ os, NameOk x) {α : Type} : ∀ {n : List α} {ys : List V}, All2 (fun _ y => ∃ r, RV K H y r ∧ inner r = [] ∧ DrR ws os r) n ys → ∃ b, Tvs K H ys (dB b) ∧ b.length = n.length ∧ Pln ws b
  | _, _, .nil => ⟨[], .nil, rfl, fun _ => trivial, .nil, rfl⟩
  | _, _, .cons ⟨r, tr, hi, hd⟩ t => by
    obtain ⟨b, tb, hl, g⟩ := plain_blk hw ho t
    have q := hd.ok (d := 1) hi hw ho
    refine ⟨r :: b, .cons tr tb, by rw [List.length_cons, List.length_cons, hl], fun d => ⟨(hd.ok (d := d) hi hw ho).1, g.ok d⟩, fun x hx => ?_, ?_⟩
    · rw [rowsB, List.flatMap_append] at hx
      exact (List.mem_append.mp hx).elim (q.2.1 x) (g.nm x)
    · rw [rowsB, List.length_append, q.2.2, g.le, List.length_cons]
      omega
def spLSmall (K : PySem.W.Frag) : Sp := fun vs H Q _ => ∃ (p c : Addr), vs = [.ref p, .int 4] ∧ HandAt H p c ∧ ∀ v b H', HandAt H' p c → Kp p H H' → BV K H' v b → Good b → b ≠ [] → Q v H'
def spLWide (K : PySem.W.Frag) : Sp := fun vs H Q _ => ∃ (p c : Addr), vs = [.ref p] ∧ HandAt H p c ∧ ∀ v b H', HandAt H' p c → Kp p H H' → BV K H' v b → Good b → b ≠ [] → Q v H'
section
variable {P : Program} {w : World} {K : PySem.W.Frag} {mg : Str → Option Value} {base : Heap}
end
end K24
set_option Elab.async false
set_option linter.all false
set_option maxRecDepth 100000
set_option maxHeartbeats 4000000
namespace K24
open PySem PySem.Spec PyProof.Rows L2 ZX PM ZR
/-- what stands between two turns -/
structure WdB (K : PySem.W.Frag) (p c wa oa : Addr) (ws os : List Str) (H0 : Hp) (i : Nat) (v : V) (b : List Rw) (H : Hp) : Prop where
  t : Two H p c wa oa ws os
  kp : Kp p H0 H
  tv : BV K H v b
  ok : okB 1 b
  nm : NmB ws b
  le : (rowsB b).length ≤ 30
  ln : b.length ≤ i
  ne : 1 ≤ i → b ≠ []
theorem WdB.mv {K : PySem.W.Frag} {p c wa oa : Addr} {ws os : List Str} {H0 : Hp} {i : Nat} {v : V} {b : List Rw} {H H' : Hp} (h : WdB K p c wa oa ws os H0 i v b H) (hh : HandAt H' p c) (k : Kp p H H') : WdB K p c wa oa ws os H0 i v b H' :=
  ⟨h.t.kp hh k, h.kp.trans k, h.tv.pt (h.t.hh.pt k), h.ok, h.nm, h.le, h.ln, h.ne⟩
/-- a row of the first block -/
structure TopR (ws : List Str) (r : Rw) : Prop where
  ok : okR 1 r
  nm : NmR ws r
  le : (rowsR r).length ≤ 30
section
variable {P : Program} {w : World} {K : PySem.W.Frag} {mg : Str → Option Value} {base : Heap}
theorem scWide : FnScope ["_law_hand_here", "_law_menu", "_law_ops", "_law_rows", "_law_turn", "_law_kind", "_law_row"] ["_law_hand_here"] (defScope sLWide) := ⟨rfl, rfl, rfl, by decide +kernel, rfl, by decide +kernel, by decide +kernel⟩
theorem ok_lwide {f : Addr} {fd : FuncData} (F : FnP K "_law_wide" sLWide f fd) (T : Bi mg) (C__law_draw : Cal P w K mg base "_law_draw" 1 ["_law_hand_here", "_law_many"] spDraw) (C__law_words : Cal P w K mg base "_law_words" 2 ["_law_hand_here", "_law_many"] spLWords) (C__law_plain : Cal P w K mg base "_law_plain" 3 ["_law_hand_here", "_law_menu", "_law_ops"] (spLPlain K))
    (C3 : Cal P w K mg base "_law_inner" 4 ["_law_hand_here", "_law_menu", "_law_ops", "_law_deep"] (spLInner K 1)) (C2 : Cal P w K mg base "_law_inner" 5 ["_law_hand_here", "_law_menu", "_law_ops", "_law_deep"] (spLInner K 2)) (C__law_size : Cal P w K mg base "_law_size" 5 ["_law_block"] (spLSize K 4)) : FnOk P w K mg base CX0 6 f fd ["_law_hand_here"] (spLWide K) := by
  refine F.ok scWide (fun vs H Q E h => ?_) (fun cdv A outer s H vs Q E hr h => ?_)
  · obtain ⟨p, c, rfl, _⟩ := h
    rfl
  · obtain ⟨p, c, rfl, hh0, k⟩ := h
    have hr__law_draw := hr.mono (show 1 ≤ 5 by decide)
    have hr__law_words := hr.mono (show 2 ≤ 5 by decide)
    have hr__law_plain := hr.mono (show 3 ≤ 5 by decide)
    have hr3 := hr.mono (show 4 ≤ 5 by decide)
    have hr__law_size := hr
    refine ⟨_, PSs.nox (pss_cons (ps_set (i := 1) scWide.nd rfl (Or.inl rfl) (pcal C__law_words hr__law_words rfl (pa_cons (pv 0) (pa_cons (pe_op op_add pe_int (pcal C__law_draw hr__law_draw rfl (pa_cons (pv 0) (pa_cons pe_int pa_nil)))) pa_nil))))
    (pss_cons (ps_set (i := 2) scWide.nd rfl (Or.inl rfl) (pcal C__law_words hr__law_words rfl (pa_cons (pv 0) (pa_cons pe_int pa_nil))))
    (pss_cons (ps_set (i := 3) scWide.nd rfl (Or.inl rfl) (pe_tup pa_nil))
    (pss_cons (ps_for PassesOwn.never rfl (pi_range1 rfl T.b_range (pa_cons (pe_op op_add pe_int (pcal C__law_draw hr__law_draw rfl (pa_cons (pv 0) (pa_cons pe_int pa_nil)))) pa_nil)) (pg_name (i := 4) scWide.nd rfl (Or.inl rfl)) (pss_cons (ps_set (i := 5) scWide.nd rfl (Or.inl rfl) (pcal C__law_draw hr__law_draw rfl (pa_cons (pv 0) (pa_cons pe_int pa_nil))))
      (pss_cut (ps_set (i := 6) scWide.nd rfl (Or.inl rfl) (pcal C__law_plain hr__law_plain rfl (pa_cons (pv 0) (pa_cons (pv 1) (pa_cons (pv 2) pa_nil)))))
      (pss_cut (ps_if (pt_cmpR op_eq (pv 5) pe_int (nomark _)) (pss_one (ps_set (i := 6) scWide.nd rfl (Or.inl rfl) (pe_tup (pa_cons pe_str (pa_cons (pcal C2 hr rfl (pa_cons (pv 0) (pa_cons (pv 1) (pa_cons (pv 2) (pa_cons pe_int pa_nil))))) pa_nil))))) (pss_one (ps_if (pt_cmpR op_eq (pv 5) pe_int (nomark _)) (pss_one (ps_set (i := 6) scWide.nd rfl (Or.inl rfl) (pe_tup (pa_cons pe_str (pa_cons (pcal C3 hr3 rfl (pa_cons (pv 0) (pa_cons (pv 1) (pa_cons (pv 2) (pa_cons pe_int pa_nil))))) (pa_cons (pcal C2 hr rfl (pa_cons (pv 0) (pa_cons (pv 1) (pa_cons (pv 2) (pa_cons pe_int pa_nil))))) pa_nil)))))) pss_nil)))
      (pss_one (ps_if (pt_cmpR op_le (pcal C__law_size hr__law_size rfl (pa_cons (pe_op op_catZ (pv 3) (pe_tup (pa_cons (pv 6) pa_nil))) pa_nil)) pe_int (nomark _)) (pss_one (ps_set (i := 3) scWide.nd rfl (Or.inl rfl) (pe_op op_catZ (pv 3) (pe_tup (pa_cons (pv 6) pa_nil))))) pss_nil))))))
    (pss_one (ps_ret (pv 3))))))), ?_⟩
    refine ⟨_, rfl, _, rfl, p, c, 8, rfl, hh0, by decide, by decide, fun m H1 m0 m4 hh1 ch1 => ?_⟩
    have em : (1 : Int) + m = ((m.toNat + 1 : Nat) : Int) := by omega
    refine ⟨_, _, rfl, rfl, ?_⟩
    refine ⟨p, c, m.toNat + 1, by rw [← em]; rfl, hh1, by omega, by omega, fun wa ws H2 hh2 k2 nwa hwa lws okw => ?_⟩
    refine ⟨_, rfl, p, c, 2, rfl, hh2, by decide, by decide, fun oa os H3 hh3 k3 noa hoa los oko => ?_⟩
    have nwp := hh1.nep nwa
    have t3 : Two H3 p c wa oa ws os := ⟨hh3, k3 _ _ nwp hwa, hoa, nwp, hh2.nep noa, fun e => by rw [e] at lws; simp at lws, fun e => by rw [e] at los; simp at los, by omega, by omega⟩
    have kp3 : Kp p H H3 := (ch1.kp.trans k2).trans k3
    refine ⟨by decide, fun q nq => ?_⟩
    have sq := same_new (o := .tup []) nq
    have hhq := hh3.kp sq
    refine ⟨_, rfl, p, c, 8, rfl, hhq, by decide, by decide, fun n H4 n0 n8 hh4 ch4 => ?_⟩
    refine ⟨_, _, rfl, rfl, _, rfl, by omega, by omega, ?_⟩
    refine for_range (fun i σ' H' => ∃ v b y4 y5 y6, σ' = [some (.ref p), some (.ref wa), some (.ref oa), some v, y4, y5, y6] ∧ WdB K p c wa oa ws os H i v b H') ⟨.ref q, [], _, _, _, rfl, (t3.same sq).kp hh4 ch4.kp, (kp3.same sq).trans ch4.kp, Tv.pt (hhq.pt ch4.kp) (.tup (.inl (.inl upd_same)) .nil), trivial, .nil, Nat.zero_le _, Nat.zero_le _, fun h => absurd h (by decide)⟩ ?_ ?_
    · rintro i σ' H' hi ⟨v, b, y4, y5, y6, rfl, B0⟩
      refine ⟨_, rfl, p, c, 6, rfl, B0.t.hh, by decide, by decide, fun d H5 _ _ hh5 ch5 => ?_⟩
      have B1 := B0.mv hh5 ch5.kp
      refine ⟨fun σ6 H6 => ∃ u r, σ6 = [some (.ref p), some (.ref wa), some (.ref oa), some v, some (.int (0 + (i : Nat))), some (.int d), some u] ∧ WdB K p c wa oa ws os H i v b H6 ∧ RV K H6 u r ∧ TopR ws r, ?_, ?_⟩
      · refine ⟨_, rfl, _, rfl, _, rfl, p, c, wa, oa, ws, os, rfl, B1.t, fun u r H6 hh6 k6 tv hi hd => ?_⟩
        have q := hd.ok (d := 1) hi okw oko
        exact ⟨u, r, rfl, B1.mv hh6 k6, tv, q.1, q.2.1, by rw [q.2.2]; decide⟩
      rintro σ6 H6 ⟨u, r, rfl, B6, tr, R6⟩
      refine ⟨fun σ6 H6 => ∃ u r, σ6 = [some (.ref p), some (.ref wa), some (.ref oa), some v, some (.int (0 + (i : Nat))), some (.int d), some u] ∧ WdB K p c wa oa ws os H i v b H6 ∧ RV K H6 u r ∧ TopR ws r, ?_, ?_⟩
      · refine ⟨_, rfl, rfl, _, rfl, ?_⟩
        refine ite2 (fun _ => ?_) (fun _ => ?_)
        · refine ⟨_, rfl, _, rfl, _, rfl, p, c, wa, oa, ws, os, 2, rfl, B6.t, okw, oko, by decide, by decide, rfl, fun v1 b1 H7 hh7 k7 tv1 D1 => ⟨by show 2 ≤ sizeLine; decide, fun q nq => ?_⟩⟩
          have sq := same_new (o := .tup [V.str "again", v1]) nq
          have l1 := D1.le
          have m1 := D1.l4
          simp at l1
          refine ⟨_, .again b1, rfl, (B6.mv hh7 k7).mv (hh7.kp sq) sq.kp, .tup (.inl (.inl upd_same)) (.cons (.str _) (.cons (tv1.pt sq.pt) .nil)), ⟨by decide, by omega, D1.ok2⟩, NmR.again D1.nm, ?_⟩
          rw [rowsR, List.length_cons]
          omega
        · refine ⟨_, rfl, rfl, _, rfl, ?_⟩
          refine ite2 (fun _ => ?_) (fun _ => ⟨u, r, rfl, B6, tr, R6⟩)
          refine ⟨_, rfl, _, rfl, _, rfl, p, c, wa, oa, ws, os, 3, rfl, B6.t, okw, oko, by decide, by decide, rfl, fun v1 b1 H7 hh7 k7 tv1 D1 => ?_⟩
          have B7 := B6.mv hh7 k7
          refine ⟨_, rfl, _, rfl, _, rfl, p, c, wa, oa, ws, os, 2, rfl, B7.t, okw, oko, by decide, by decide, rfl, fun v2 b2 H8 hh8 k8 tv2 D2 => ⟨by show 3 ≤ sizeLine; decide, fun q nq => ?_⟩⟩
          have sq := same_new (o := .tup [V.str "either", v1, v2]) nq
          have l1 := D1.le
          have m1 := D1.l4
          have l2 := D2.le
          have m2 := D2.l4
          simp at l1 l2
          refine ⟨_, .either b1 b2, rfl, (B7.mv hh8 k8).mv (hh8.kp sq) sq.kp, .tup (.inl (.inl upd_same)) (.cons (.str _) (.cons ((tv1.pt (hh7.pt k8)).pt sq.pt) (.cons (tv2.pt sq.pt) .nil))), ⟨by decide, by omega, by omega, D1.ok2, D2.ok2⟩, NmR.either D1.nm D2.nm, ?_⟩
          rw [rowsR, List.length_cons, List.length_append]
          omega
      rintro σ6 H6 ⟨u, r, rfl, B6, tr, R6⟩
      obtain ⟨a, xs, rfl, hS, ht⟩ := B6.tv.tupI
      have hxl : xs.length = b.length := by rw [ht.len, dB_eq, List.length_map]
      have hln := B6.ln
      have cat : ∀ {q' : Addr} {G : Hp}, Same H6 G → SqT K G q' (xs ++ [u]) → BV K G (.ref q') (b ++ [r]) := fun s h => .tup h (by
        rw [dB_snoc]
        exact Tvs.app (ht.pt s.pt) (.cons (tr.pt s.pt) .nil))
      refine ⟨_, rfl, _, rfl, by show 1 ≤ sizeLine; decide, fun t nt => ?_⟩
      have st := same_new (o := .tup [u]) nt
      refine ⟨a, t, xs, [u], rfl, rfl, st.pt.sq hS, .inl (.inl upd_same), Nat.le_trans (show xs.length + 1 ≤ 20 by omega) (by decide), fun q' G sG hG => ?_⟩
      have sG6 := st.trans sG
      have lle : (rowsB (b ++ [r])).length ≤ 1000 := by
        rw [rowsB_snoc, List.length_append]
        have := B6.le
        have := R6.le
        omega
      have okn := okB_snoc B6.ok R6.ok
      refine ⟨.ref q', b ++ [r], rfl, cat sG6 hG, by have := ok_depB okn (by decide); omega, lle, fun G2 s2 => ?_⟩
      refine ⟨_, _, rfl, rfl, _, rfl, ?_⟩
      have sG2 := sG6.trans s2
      have BG := B6.mv (B6.t.hh.kp sG2) sG2.kp
      have small : b = [] → (((rowsB (b ++ [r])).length : Nat) : Int) ≤ 30 := fun eb => by
        have := R6.le
        rw [eb]
        show (((rowsB [r]).length : Nat) : Int) ≤ 30
        have e1 : rowsB [r] = rowsR r := List.append_nil _
        rw [e1]
        omega
      refine ite2 (fun e => ?_) (fun e => ⟨_, b, _, _, _, rfl, BG.t, BG.kp, BG.tv, BG.ok, BG.nm, BG.le, by have := BG.ln; omega, fun _ eb => e (decide_eq_true (small eb))⟩)
      have e30 : (((rowsB (b ++ [r])).length : Nat) : Int) ≤ 30 := of_decide_eq_true e
      refine ⟨_, rfl, _, rfl, by show 1 ≤ sizeLine; decide, fun t2 nt2 => ?_⟩
      have st2 := same_new (o := .tup [u]) nt2
      refine ⟨a, t2, xs, [u], rfl, rfl, st2.pt.sq (sG2.pt.sq hS), .inl (.inl upd_same), Nat.le_trans (show xs.length + 1 ≤ 20 by omega) (by decide), fun q2 G3 s3 h3 => ?_⟩
      have sG3 := (sG2.trans st2).trans s3
      have B3 := B6.mv (B6.t.hh.kp sG3) sG3.kp
      refine ⟨_, b ++ [r], _, _, _, rfl, B3.t, B3.kp, cat sG3 h3, okn, B6.nm.snoc R6.nm, by omega, ?_, fun _ => by simp⟩
      rw [List.length_append]
      show b.length + 1 ≤ i + 1
      omega
    · rintro σ' H' ⟨v, b, y4, y5, y6, rfl, B1⟩
      have := B1.ln
      exact ⟨_, rfl, k v b H' B1.t.hh B1.kp B1.tv ⟨B1.ok, by omega, B1.le, fun ys hy => by have := hy.le B1.nm; omega⟩ (B1.ne (by omega))⟩
end
end K24
set_option Elab.async false
set_option linter.all false
set_option maxRecDepth 100000
set_option maxHeartbeats 4000000
namespace PM
open PySem PySem.Spec PyProof.Rows L2 ZX ZR
theorem strOk_name {x : Str} (h : NameOk x) : PyData.strOk x = true := by
  show x.cps.all (fun c => decide (c < 0x110000)) = true
  rw [← Array.all_toList]
  exact List.all_eq_true.mpr fun c hc => decide_eq_true (by have := (h.2.2 c hc).2; omega)
theorem lay_strs : ∀ {ps : List Str}, (∀ y ∈ ps, NameOk y) → PyData.canLayAll0 (ps.map .str) = true
  | [], _ => rfl
  | x :: ps, h => by
    show (PyData.strOk x && PyData.canLayAll0 (ps.map .str)) = true
    rw [strOk_name (h x List.mem_cons_self), lay_strs fun y hy => h y (List.mem_cons_of_mem _ hy)]
    rfl
theorem dep_strs : ∀ {ps : List Str}, PyData.depthAll (ps.map .str) = 0
  | [] => rfl
  | x :: ps => by
    show max 0 (PyData.depthAll (ps.map .str)) = 0
    rw [dep_strs]
    rfl
theorem lay_word {a : String} (h : PyData.strOk (Str.ofString a) = true) (ds : List PyData) : PyData.canLay0 (.tuple (.str (Str.ofString a) :: ds)) = PyData.canLayAll0 ds := by
  show (PyData.strOk (Str.ofString a) && PyData.canLayAll0 ds) = _
  rw [h, Bool.true_and]
mutual
theorem lay_dR : ∀ {d : Nat} {r : Rw}, okR d r → (dR r).canLay0 = true
  | d, .note x o ps, h => by
    rw [dR, lay_word (by decide +kernel)]
    show (PyData.strOk x && (PyData.strOk o && (PyData.canLayAll0 (ps.map .str) && true))) = true
    rw [strOk_name h.1, strOk_name h.2.1, lay_strs h.2.2.2]
    rfl
  | d, .copy x y, h => by
    rw [dR, lay_word (by decide +kernel)]
    show (PyData.strOk x && (PyData.strOk y && true)) = true
    rw [strOk_name h.1, strOk_name h.2]
    rfl
  | d, .give x i, h => by
    rw [dR, lay_word (by decide +kernel)]
    show (PyData.strOk x && (true && true)) = true
    rw [strOk_name h]
    rfl
  | d, .ask x, h => by
    rw [dR, lay_word (by decide +kernel)]
    show (PyData.strOk x && true) = true
    rw [strOk_name h]
    rfl
  | d, .prt x, h => by
    rw [dR, lay_word (by decide +kernel)]
    show (PyData.strOk x && true) = true
    rw [strOk_name h]
    rfl
  | d, .either a b, h => by
    rw [dR, lay_word (by decide +kernel)]
    show (PyData.canLayAll0 (dB a) && (PyData.canLayAll0 (dB b) && true)) = true
    rw [lay_dB h.2.2.2.1, lay_dB h.2.2.2.2]
    rfl
  | d, .again a, h => by
    rw [dR, lay_word (by decide +kernel)]
    show (PyData.canLayAll0 (dB a) && true) = true
    rw [lay_dB h.2.2]
    rfl
theorem lay_dB : ∀ {d : Nat} {b : List Rw}, okB d b → PyData.canLayAll0 (dB b) = true
  | d, [], _ => rfl
  | d, r :: b, h => by
    show ((dR r).canLay0 && PyData.canLayAll0 (dB b)) = true
    rw [lay_dR h.1, lay_dB h.2]
    rfl
end
mutual
theorem dep_dR : ∀ (r : Rw), (dR r).depth ≤ 2 * depR r + 2
  | .note x o ps => by
    show max 0 (max 0 (max 0 (max (PyData.depthAll (ps.map .str) + 1) 0))) + 1 ≤ 2 * 0 + 2
    rw [dep_strs]
    decide
  | .copy x y => by show (0 + 1 : Nat) ≤ 2; decide
  | .give x i => by show (0 + 1 : Nat) ≤ 2; decide
  | .ask x => by show (0 + 1 : Nat) ≤ 2; decide
  | .prt x => by show (0 + 1 : Nat) ≤ 2; decide
  | .either a b => by
    have h1 := dep_dB a
    have h2 := dep_dB b
    show max 0 (max (PyData.depthAll (dB a) + 1) (max (PyData.depthAll (dB b) + 1) 0)) + 1 ≤ 2 * (max (depB a) (depB b) + 1) + 2
    omega
  | .again a => by
    have h1 := dep_dB a
    show max 0 (max (PyData.depthAll (dB a) + 1) 0) + 1 ≤ 2 * (depB a + 1) + 2
    omega
theorem dep_dB : ∀ (b : List Rw), PyData.depthAll (dB b) ≤ 2 * depB b + 2
  | [] => Nat.zero_le _
  | r :: b => by
    have h1 := dep_dR r
    have h2 := dep_dB b
    show max (dR r).depth (PyData.depthAll (dB b)) ≤ 2 * max (depR r) (depB b) + 2
    omega
end
theorem shaped_R {d : Nat} {r : Rw} (h : okR d r) (hd : depR r ≤ 4) : SeqAt.shaped (dR r) = true := by
  have := dep_dR r
  show ((dR r).canLay0 && decide ((dR r).depth ≤ 64)) = true
  rw [lay_dR h, decide_eq_true (by omega)]
  rfl
theorem shaped_B {d : Nat} {b : List Rw} (h : okB d b) (hd : depB b ≤ 4) : SeqAt.shaped (.tuple (dB b)) = true := by
  have := dep_dB b
  show (PyData.canLayAll0 (dB b) && decide (PyData.depthAll (dB b) + 1 ≤ 64)) = true
  rw [lay_dB h, decide_eq_true (by omega)]
  rfl
theorem eqv_empty (b : List Rw) : PyData.eqv (.tuple (dB b)) (.tuple []) = b.isEmpty := by
  cases b with
  | nil => rfl
  | cons r b => rfl
theorem Kp.ptD {p : Addr} {H H' : Hp} {kvs : List (Key × V)} (h : H p = some (.dK kvs)) (k : Kp p H H') : Pt H H' := fun b ys hb => by
  have ne : b ≠ p := fun e => by
    subst e
    rcases hb with hb | ⟨o, hb⟩ <;> rw [h] at hb <;> cases hb
  exact hb.elim (fun h => .inl (k _ _ ne h)) fun ⟨o, h⟩ => .inr ⟨o, k _ _ ne h⟩
theorem Pt.dic {H : Hp} {p : Addr} {kvs : List (Key × V)} {o : HO} (h : H p = some (.dK kvs)) : Pt H (upd H p o) := Kp.ptD h ((Kp.refl p H).put)
/-- what a table says of each place: the row, the next places -/
def entsR (r : Rw) (p e : Nat) : List (Rw × List Nat) := (rowsR r).zip (leadsR r p e)
def entsB (b : List Rw) (p e : Nat) : List (Rw × List Nat) := (rowsB b).zip (leadsB b p e)
def dE (x : Rw × List Nat) : PyData := .tuple [dR x.1, encL x.2]
theorem entsR_len (r : Rw) (p e : Nat) : (entsR r p e).length = (rowsR r).length := by
  unfold entsR
  rw [List.length_zip, leadsR_len, Nat.min_self]
theorem entsB_len (b : List Rw) (p e : Nat) : (entsB b p e).length = (rowsB b).length := by
  unfold entsB
  rw [List.length_zip, leadsB_len, Nat.min_self]
theorem entsB_cons (r : Rw) (b : List Rw) (p e : Nat) : entsB (r :: b) p e = entsR r p (if b.isEmpty then e else p + (rowsR r).length) ++ entsB b (p + (rowsR r).length) e := by
  unfold entsB entsR
  rw [rowsB, leadsB, List.zip_append (by rw [leadsR_len])]
theorem entsR_again (a : List Rw) (p e : Nat) : entsR (.again a) p e = (.again a, [if a.isEmpty then p else p + 1, e]) :: entsB a (p + 1) p := rfl
theorem entsR_either (a b : List Rw) (p e : Nat) : entsR (.either a b) p e = (.either a b, [if a.isEmpty then e else p + 1, if b.isEmpty then e else p + 1 + (rowsB a).length]) :: (entsB a (p + 1) e ++ entsB b (p + 1 + (rowsB a).length) e) := by
  unfold entsR entsB
  rw [rowsR, leadsR, List.zip_cons_cons, List.zip_append (by rw [leadsB_len])]
theorem Tvs.set {K : PySem.W.Frag} {H : Hp} : ∀ {vs : List V} {ds : List PyData} {v : V} {d : PyData} (i : Nat), Tvs K H vs ds → Tv K H v d → Tvs K H (vs.set i v) (ds.set i d)
  | _, _, _, _, _, .nil, _ => by simpa using Tvs.nil
  | _, _, _, _, 0, .cons _ t, h => .cons h t
  | _, _, _, _, i + 1, .cons h t, k => .cons h (Tvs.set i t k)
theorem set_mid {α : Type} {a b : List α} {x y : α} : (a ++ x :: b).set a.length y = a ++ y :: b := by
  rw [List.set_append_right _ _ (Nat.le_refl _), Nat.sub_self]
  rfl
end PM
set_option Elab.async false
set_option linter.all false
set_option maxRecDepth 100000
set_option maxHeartbeats 4000000
namespace K24
open PySem PySem.Spec PyProof.Rows L2 ZX PM ZR
theorem len_rowsB : ∀ b : List Rw, b.length ≤ (rowsB b).length
  | [] => Nat.le_refl _
  | r :: b => by
    have := rowsR_pos r
    have := len_rowsB b
    rw [rowsB, List.length_append, List.length_cons]
    omega
theorem ixN_of {n i : Nat} (h : i < n) : ixN n (i : Int) = some i := by
  unfold ixN
  simp
  omega
abbrev sLLay : Stmt := top 62
def spLLay (K : PySem.W.Frag) (n : Nat) : Sp := fun vs H Q _ => ∃ (l : Addr) (us : List V) (D : List PyData) (v : V) (b : List Rw) (e d : Nat), vs = [.ref l, v, .int e] ∧ H l = some (.lst us) ∧ Tvs K H us D ∧ BV K H v b ∧ okB d b ∧ depB b < n ∧ depB b ≤ 3 ∧ D.length + (rowsB b).length ≤ 1000 ∧
  ∀ us' H', Kp l H H' → H' l = some (.lst us') → Tvs K H' us' (D ++ (entsB b D.length e).map dE) → Q .non H'
section
variable {P : Program} {w : World} {K : PySem.W.Frag} {mg : Str → Option Value} {base : Heap}
theorem scLay : FnScope ["_law_table_here", "_law_block", "_law_behind", "_law_at", "_law_row", "_law_here", "_law_later", "_law_first", "_law_second"] ["_law_table_here", "_law_block", "_law_behind"] (defScope sLLay) := ⟨rfl, rfl, rfl, by decide +kernel, rfl, by decide +kernel, by decide +kernel⟩
theorem ok_llay0 {f : Addr} {fd : FuncData} (k : Nat) : FnOk P w K mg base CX0 k f fd ["_law_table_here", "_law_block", "_law_behind"] (spLLay K 0) :=
  ⟨fun vs H Q E h => by
    obtain ⟨_, _, _, _, _, _, _, _, _, _, _, _, h, _⟩ := h
    exact absurd h (Nat.not_lt_zero _), fun A outer s H args us vs Q E hr e0 hb r h => by
    obtain ⟨_, _, _, _, _, _, _, _, _, _, _, _, h, _⟩ := h
    exact absurd h (Nat.not_lt_zero _)⟩
theorem ok_llay1 {n : Nat} {g : Addr} {fd : FuncData} (F : FnP K "_law_lay" sLLay g fd) (T : Bi mg) (C__law_size : Cal P w K mg base "_law_size" 5 ["_law_block"] (spLSize K 4)) (C__law_lay : Cal P w K mg base "_law_lay" (n + 5) ["_law_table_here", "_law_block", "_law_behind"] (spLLay K n)) : FnOk P w K mg base CX0 (n + 6) g fd ["_law_table_here", "_law_block", "_law_behind"] (spLLay K (n + 1)) := by
  refine F.ok scLay (fun vs H Q E h => ?_) (fun cdv A outer s H vs Q E hr h => ?_)
  · obtain ⟨l, us, D, v, b, e, d, rfl, _⟩ := h
    rfl
  · obtain ⟨l, us0, D, v, b, e, d, rfl, hl0, hu0, tv, okb, hd, hd3, hn, k⟩ := h
    obtain ⟨a, xs, rfl, hS, ht⟩ := tv.tupI
    have hxl : xs.length = b.length := by rw [ht.len, dB_eq, List.length_map]
    have hbl := len_rowsB b
    have hr__law_size := hr.mono (show 5 ≤ n + 5 by omega)
    have hr__law_lay := hr
    refine ⟨_, PSs.nox (pss_one (ps_for PassesOwn.never rfl (pi_range1 rfl T.b_range (pa_cons (pe_callB call_len_seq (by rfl) T.b_len (by decide +kernel) (pa_cons (pv 1) pa_nil)) pa_nil)) (pg_name (i := 3) scLay.nd rfl (Or.inl rfl)) (pss_cons (ps_par (by rfl) scLay.nd (i := 4) (j := 5) rfl rfl (by decide) rfl rfl (pa_cons (pe_ix ix_tup (pv 1) (pv 3) (fun _ _ => rfl)) (pa_cons (pe_callB call_len_seq (by rfl) T.b_len (by decide +kernel) (pa_cons (pv 0) pa_nil)) pa_nil)) (by rfl))
      (pss_cut (ps_set (i := 6) scLay.nd rfl (Or.inl rfl) (pe_ifExp (pt_cmpR op_lt (pe_op op_add (pv 3) pe_int) (pe_callB call_len_seq (by rfl) T.b_len (by decide +kernel) (pa_cons (pv 1) pa_nil)) (nomark _)) (pe_op op_add (pv 5) (pcal C__law_size hr__law_size rfl (pa_cons (pe_tup (pa_cons (pv 4) pa_nil)) pa_nil))) (pv 2)))
      (pss_cons (ps_expr (pe_bm PySem.F.plainAttrs_list PySem.F.slot_list_append PySem.F.type_list_append mt_append (pv 0) (pa_cons (pe_tup (pa_cons (pv 4) (pa_cons (pe_tup (pa_cons (pv 6) pa_nil)) pa_nil))) pa_nil)))
      (pss_one (ps_if (pt_cmpR op_eq (pe_ix ix_tup (pv 4) pe_int (fun _ _ => rfl)) pe_str (nomark _)) (pss_cons (ps_asg (pe_tup (pa_cons (pv 4) (pa_cons (pe_tup (pa_cons (pe_ifExp (pt_cmpR (op_neD hr.units) (pe_ix ix_tup (pv 4) pe_int (fun _ _ => rfl)) (pe_tup pa_nil) (nomark _)) (pe_op op_add (pv 5) pe_int) (pv 5)) (pa_cons (pv 6) pa_nil))) pa_nil))) (pg_sub (pv 0) (pv 5) set_list))
        (pss_one (ps_expr (pcal C__law_lay hr__law_lay rfl (pa_cons (pv 0) (pa_cons (pe_ix ix_tup (pv 4) pe_int (fun _ _ => rfl)) (pa_cons (pv 5) pa_nil))))))) (pss_one (ps_if (pt_cmpR op_eq (pe_ix ix_tup (pv 4) pe_int (fun _ _ => rfl)) pe_str (nomark _)) (pss_cons (ps_set (i := 7) scLay.nd rfl (Or.inl rfl) (pe_ifExp (pt_cmpR (op_neD hr.units) (pe_ix ix_tup (pv 4) pe_int (fun _ _ => rfl)) (pe_tup pa_nil) (nomark _)) (pe_op op_add (pv 5) pe_int) (pv 6)))
          (pss_cons (ps_expr (pcal C__law_lay hr__law_lay rfl (pa_cons (pv 0) (pa_cons (pe_ix ix_tup (pv 4) pe_int (fun _ _ => rfl)) (pa_cons (pv 6) pa_nil)))))
          (pss_cut (ps_set (i := 8) scLay.nd rfl (Or.inl rfl) (pe_ifExp (pt_cmpR (op_neD hr.units) (pe_ix ix_tup (pv 4) pe_int (fun _ _ => rfl)) (pe_tup pa_nil) (nomark _)) (pe_callB call_len_seq (by rfl) T.b_len (by decide +kernel) (pa_cons (pv 0) pa_nil)) (pv 6)))
          (pss_cons (ps_expr (pcal C__law_lay hr__law_lay rfl (pa_cons (pv 0) (pa_cons (pe_ix ix_tup (pv 4) pe_int (fun _ _ => rfl)) (pa_cons (pv 6) pa_nil)))))
          (pss_one (ps_asg (pe_tup (pa_cons (pv 4) (pa_cons (pe_tup (pa_cons (pv 7) (pa_cons (pv 8) pa_nil))) pa_nil))) (pg_sub (pv 0) (pv 5) set_list))))))) pss_nil))))))))), ?_⟩
    refine ⟨_, rfl, a, _, rfl, .inr hS, _, rfl, by omega, by omega, ?_⟩
    refine for_range (fun i σ' H' => ∃ us don y3 y4 y5 y6 y7 y8, σ' = [some (.ref l), some (.ref a), some (.int e), y3, y4, y5, y6, y7, y8] ∧ Kp l H H' ∧ H' l = some (.lst us) ∧ Tvs K H' us (D ++ List.map dE don) ∧ don ++ entsB (b.drop i) (D.length + don.length) e = entsB b D.length e)
      ⟨us0, [], _, _, _, _, _, _, rfl, Kp.refl _ _, hl0, by rw [List.map_nil, List.append_nil]; exact hu0, rfl⟩ ?_ ?_
    · rintro i σ' H' hi ⟨us, don, y3, y4, y5, y6, y7, y8, rfl, kp, hl, hu, he⟩
      have pt0 := Kp.pt hl0 kp
      have hil : i < b.length := by omega
      have hx : xs[i]? = some xs[i] := List.getElem?_eq_getElem (by omega)
      generalize xs[i] = x at hx
      obtain ⟨r, hr0, tr⟩ := (ht.pt pt0).nthR hx
      have hdr : b.drop i = r :: b.drop (i + 1) := by
        rw [List.drop_eq_getElem_cons hil]
        rw [List.getElem?_eq_getElem hil] at hr0
        cases hr0
        rfl
      have hrm : r ∈ b := List.mem_of_getElem? hr0
      have hdR := depB_mem hrm
      have okr := okB_mem okb hrm
      rw [hdr, entsB_cons] at he
      have hlen := congrArg List.length he
      rw [List.length_append, List.length_append, entsR_len, entsB_len, entsB_len] at hlen
      have hul := hu.len
      rw [List.length_append, List.length_map] at hul
      have hrow1 : rowsB [r] = rowsR r := List.append_nil _
      have hdep1 : depB [r] < 4 := by
        show max (depR r) 0 < 4
        omega
      rw [← hul] at he
      generalize hee : (if (b.drop (i + 1)).isEmpty then e else us.length + (rowsR r).length) = e' at he
      -- row, here
      refine ⟨_, rfl, _, rfl, _, _, _, _, rfl, rfl, pt0.sq hS, at_of (j := i) (by omega) hx, _, rfl, l, _, rfl, .inl (SqL.of hl), _, _, rfl, ?_⟩
      refine ⟨fun σ2 H2 => σ2 = [some (.ref l), some (.ref a), some (.int (e : Nat)), some (.int (0 + (i : Nat))), some x, some (.int (us.length : Nat)), some (.int (e' : Nat)), y7, y8] ∧ Same H' H2, ?_, ?_⟩
      · refine ⟨_, rfl, _, _, rfl, rfl, _, rfl, a, _, rfl, .inr (pt0.sq hS), _, _, rfl, rfl, _, rfl, ?_⟩
        refine ite2 (fun q => ?_) (fun q => ?_)
        · have q' : (0 + (i : Int)) + 1 < (xs.length : Int) := of_decide_eq_true q
          refine ⟨_, rfl, _, rfl, by show 1 ≤ sizeLine; decide, fun t nt => ⟨_, [r], rfl, .tup (.inl (.inl upd_same)) (.cons (tr.pt (Pt.new nt)) .nil), hdep1, by rw [hrow1]; omega, fun H4 s4 => ⟨_, _, rfl, rfl, ?_, (same_new nt).trans s4⟩⟩⟩
          have : (b.drop (i + 1)).isEmpty = false := by
            cases hb : b.drop (i + 1) with
            | nil =>
              have := congrArg List.length hb
              rw [List.length_drop] at this
              simp at this
              omega
            | cons _ _ => rfl
          rw [this] at hee
          rw [hrow1, ← hee]
          rfl
        · have q' : ¬ (0 + (i : Int)) + 1 < (xs.length : Int) := fun z => q (decide_eq_true z)
          have : b.drop (i + 1) = [] := List.drop_eq_nil_of_le (by omega)
          rw [this] at hee
          refine ⟨_, rfl, ?_, fun _ _ h => h⟩
          rw [← hee]
          rfl
      · rintro σ2 H2 ⟨rfl, s2⟩
        have hl2 := s2 _ _ hl
        have kp2 := kp.same s2
        refine ⟨_, rfl, .inl ⟨rfl, _, SqL.of hl2⟩, _, rfl, _, rfl, by show 1 ≤ sizeLine; decide, fun t nt => ⟨by show 2 ≤ sizeLine; decide, fun q nq => ?_⟩⟩
        have st := same_new (o := .tup [V.int (e' : Nat)]) nt
        have sq := same_new (o := .tup [x, V.ref t]) nq
        have s3 := (s2.trans st).trans sq
        refine ⟨l, us, _, rfl, rfl, sq _ _ (st _ _ hl2), Nat.lt_of_le_of_lt (show us.length ≤ 1000 by omega) (by decide), ?_⟩
        have ptl := Pt.lst (o := .lst (us ++ [V.ref q])) (sq _ _ (st _ _ hl2))
        have pt3 : Pt H' _ := s3.pt.trans ptl
        have kp3 : Kp l H (upd _ l (.lst (us ++ [V.ref q]))) := (((kp.same s2).same st).same sq).put (o := .lst (us ++ [V.ref q]))
        have hl3 : (upd (upd (upd H2 t (.tup [V.int (e' : Nat)])) q (.tup [x, V.ref t])) l (.lst (us ++ [V.ref q]))) l = some (.lst (us ++ [V.ref q])) := upd_same
        have tr3 := tr.pt pt3
        have hu3 : Tvs K (upd (upd (upd H2 t (.tup [V.int (e' : Nat)])) q (.tup [x, V.ref t])) l (.lst (us ++ [V.ref q]))) (us ++ [V.ref q]) ((D ++ List.map dE don) ++ [dE (r, [e'])]) :=
          Tvs.app (hu.pt pt3) (.cons (.tup (ptl.sq (.inl (.inl upd_same))) (.cons tr3 (.cons (.tup ((sq.pt.trans ptl).sq (.inl (.inl upd_same))) (.cons (.int _) .nil)) .nil))) .nil)
        generalize upd (upd (upd H2 t (.tup [V.int (e' : Nat)])) q (.tup [x, V.ref t])) l (.lst (us ++ [V.ref q])) = G at ptl pt3 kp3 hl3 tr3 hu3 ⊢
        have fin : ∀ (us' : List V) (G' : Hp) (y7 y8 : Option V), Kp l G G' → G' l = some (.lst us') → Tvs K G' us' ((D ++ List.map dE don) ++ List.map dE (entsR r us.length e')) →
            ∃ us2 don2 z3 z4 z5 z6 z7 z8, [some (V.ref l), some (V.ref a), some (V.int (e : Nat)), some (V.int (0 + (i : Nat))), some x, some (V.int (us.length : Nat)), some (V.int (e' : Nat)), y7, y8] = [some (.ref l), some (.ref a), some (.int e), z3, z4, z5, z6, z7, z8] ∧ Kp l H G' ∧ G' l = some (.lst us2) ∧ Tvs K G' us2 (D ++ List.map dE don2) ∧ don2 ++ entsB (b.drop (i + 1)) (D.length + don2.length) e = entsB b D.length e := fun us' G' y7 y8 kG hG hT => by
          refine ⟨us', don ++ entsR r us.length e', _, _, _, _, _, _, rfl, kp3.trans kG, hG, by rw [List.map_append, ← List.append_assoc]; exact hT, ?_⟩
          have el : D.length + (don ++ entsR r us.length e').length = us.length + (rowsR r).length := by
            rw [List.length_append, entsR_len]
            omega
          rw [el, List.append_assoc]
          exact he
        have hk : Kp l G G := Kp.refl _ _
        obtain ⟨ra, tl, rfl, hrS, hrt⟩ := tr3.rowI
        have sh0 : SeqAt.shaped (.tuple []) = true := by decide
        have hDl : us.length = (D ++ List.map dE don).length := by rw [List.length_append, List.length_map]; exact hul
        refine ⟨_, rfl, _, _, _, _, rfl, rfl, hrS, at0, rfl, _, rfl, ?_⟩
        cases r with
        | note x o ps =>
          exact ifDF (neS (a := "note") (b := "again") (by decide +kernel)) ⟨_, rfl, _, _, _, _, rfl, rfl, hrS, at0, rfl, _, rfl, ifDF (neS (a := "note") (b := "either") (by decide +kernel)) (fin _ _ _ _ hk hl3 hu3)⟩
        | copy x y =>
          exact ifDF (neS (a := "copy") (b := "again") (by decide +kernel)) ⟨_, rfl, _, _, _, _, rfl, rfl, hrS, at0, rfl, _, rfl, ifDF (neS (a := "copy") (b := "either") (by decide +kernel)) (fin _ _ _ _ hk hl3 hu3)⟩
        | give x y =>
          exact ifDF (neS (a := "give") (b := "again") (by decide +kernel)) ⟨_, rfl, _, _, _, _, rfl, rfl, hrS, at0, rfl, _, rfl, ifDF (neS (a := "give") (b := "either") (by decide +kernel)) (fin _ _ _ _ hk hl3 hu3)⟩
        | ask x =>
          exact ifDF (neS (a := "ask") (b := "again") (by decide +kernel)) ⟨_, rfl, _, _, _, _, rfl, rfl, hrS, at0, rfl, _, rfl, ifDF (neS (a := "ask") (b := "either") (by decide +kernel)) (fin _ _ _ _ hk hl3 hu3)⟩
        | prt x =>
          exact ifDF (neS (a := "print") (b := "again") (by decide +kernel)) ⟨_, rfl, _, _, _, _, rfl, rfl, hrS, at0, rfl, _, rfl, ifDF (neS (a := "print") (b := "either") (by decide +kernel)) (fin _ _ _ _ hk hl3 hu3)⟩
        | again b1 =>
          obtain ⟨v1, rfl, t1⟩ := hrt.one
          have hdd : depB b1 < n ∧ depB b1 ≤ 2 := by
            have hd' : depB b1 + 1 ≤ depB b := hdR
            omega
          have hnn : (rowsB b1).length + 1 = (rowsR (.again b1)).length := rfl
          have hR : okR d (.again b1) := okr
          obtain ⟨_, _, ok1⟩ := hR
          have sh1 := shaped_B ok1 (by omega)
          refine ifD rfl ?_
          refine ⟨_, rfl, _, rfl, _, _, _, _, rfl, rfl, hrS, rfl, by decide, fun u nu => ?_⟩
          have su := same_new (o := .tup []) nu
          refine ⟨.tuple (dB b1), .tuple [], (t1.pt su.pt).dp, .tup (.inl (.inl upd_same)) .nil, sh1, sh0, _, rfl, rd_ifE (fun R h => ⟨_, rfl, _, _, rfl, rfl, h⟩) (fun R h => ⟨_, rfl, h⟩) ?_⟩
          rw [eqv_empty]
          have eA : (if (!b1.isEmpty) = true then V.int ((us.length : Int) + 1) else V.int (us.length : Int)) = V.int ((if b1.isEmpty then us.length else us.length + 1 : Nat) : Int) := pick_eq
          rw [eA]
          refine ⟨_, rfl, by show 2 ≤ sizeLine; decide, fun q1 nq1 => ⟨by show 2 ≤ sizeLine; decide, fun q2 nq2 => ?_⟩⟩
          have s1 := same_new (o := .tup [V.int ((if b1.isEmpty then us.length else us.length + 1 : Nat) : Int), V.int (e' : Nat)]) nq1
          have s4 := same_new (o := .tup [V.ref ra, V.ref q1]) nq2
          have sA := (su.trans s1).trans s4
          have hlA := sA _ _ hl3
          refine ⟨_, rfl, _, rfl, l, _, _, us.length, rfl, rfl, hlA, ixN_of (by rw [List.length_append]; exact Nat.lt_succ_self _), ?_⟩
          have pl := Pt.lst (o := .lst ((us ++ [V.ref q]).set us.length (.ref q2))) hlA
          have ptA := sA.pt.trans pl
          have kA : Kp l G (upd _ l (.lst ((us ++ [V.ref q]).set us.length (.ref q2)))) := sA.kp.put (o := .lst ((us ++ [V.ref q]).set us.length (.ref q2)))
          have huA := Tvs.set us.length (hu3.pt ptA) (d := dE (.again b1, [if b1.isEmpty then us.length else us.length + 1, e'])) (v := .ref q2) (.tup (pl.sq (.inl (.inl upd_same))) (.cons (Tv.pt ptA (.tup hrS (.cons (.str _) (.cons t1 .nil)))) (.cons (.tup ((s4.pt.trans pl).sq (.inl (.inl upd_same))) (.cons (.int _) (.cons (.int _) .nil))) .nil)))
          rw [hDl, set_mid, ← hDl] at huA
          refine ⟨_, rfl, _, rfl, _, _, _, _, rfl, rfl, ptA.sq hrS, rfl, _, rfl, l, _, _, v1, b1, us.length, d + 1, rfl, upd_same, huA, t1.pt ptA, ok1, by omega, by omega, by rw [List.length_append, ← hDl]; show us.length + 1 + _ ≤ 1000; omega, fun us5 H5 k5 hl5 hu5 => ?_⟩
          refine fin us5 H5 _ _ (kA.trans k5) hl5 ?_
          rw [List.length_append, ← hDl] at hu5
          rw [entsR_again, List.map_cons, List.append_cons]
          exact hu5
        | either b1 b2 =>
          obtain ⟨v1, v2, rfl, t1, t2⟩ := hrt.two
          have hdd : depB b1 < n ∧ depB b2 < n ∧ depB b1 ≤ 2 ∧ depB b2 ≤ 2 := by
            have hd' : max (depB b1) (depB b2) + 1 ≤ depB b := hdR
            omega
          have hnn : (rowsB b1).length + (rowsB b2).length + 1 = (rowsR (.either b1 b2)).length := by
            show _ = ((rowsB b1 ++ rowsB b2).length + 1)
            rw [List.length_append]
          have hR : okR d (.either b1 b2) := okr
          obtain ⟨_, _, _, ok1, ok2⟩ := hR
          have sh1 := shaped_B ok1 (by omega)
          have sh2 := shaped_B ok2 (by omega)
          refine ifDF (neS (a := "either") (b := "again") (by decide +kernel)) ⟨_, rfl, _, _, _, _, rfl, rfl, hrS, at0, rfl, _, rfl, ifD rfl ?_⟩
          refine ⟨_, rfl, _, _, _, _, rfl, rfl, hrS, rfl, by decide, fun u nu => ?_⟩
          have su := same_new (o := .tup []) nu
          refine ⟨.tuple (dB b1), .tuple [], (t1.pt su.pt).dp, .tup (.inl (.inl upd_same)) .nil, sh1, sh0, _, rfl, rd_ifE (fun R h => ⟨_, rfl, _, _, rfl, rfl, h⟩) (fun R h => ⟨_, rfl, h⟩) ?_⟩
          rw [eqv_empty]
          have eA : (if (!b1.isEmpty) = true then V.int ((us.length : Int) + 1) else V.int (e' : Int)) = V.int ((if b1.isEmpty then e' else us.length + 1 : Nat) : Int) := pick_eq
          rw [eA]
          refine ⟨_, rfl, _, rfl, _, _, _, _, rfl, rfl, su.pt.sq hrS, rfl, _, rfl, l, _, _, v1, b1, e', d + 1, rfl, su _ _ hl3, hu3.pt su.pt, t1.pt su.pt, ok1, by omega, by omega, by rw [List.length_append, ← hDl]; show us.length + 1 + _ ≤ 1000; omega, fun us5 H5 k5 hl5 hu5 => ?_⟩
          rw [List.length_append, ← hDl] at hu5
          have k05 : Kp l G H5 := su.kp.trans k5
          have pt5 := Kp.pt hl3 k05
          have l5 := hu5.len
          rw [List.length_append, List.length_append, ← hDl, List.length_map, entsB_len] at l5
          refine ⟨fun σ2 H2 => σ2 = [some (.ref l), some (.ref a), some (.int (e : Nat)), some (.int (0 + (i : Nat))), some (.ref ra), some (.int (us.length : Nat)), some (.int (e' : Nat)), some (.int ((if b1.isEmpty then e' else us.length + 1 : Nat) : Int)), some (.int ((if b2.isEmpty then e' else us.length + 1 + (rowsB b1).length : Nat) : Int))] ∧ Same H5 H2, ?_, ?_⟩
          · refine ⟨_, rfl, _, _, _, _, rfl, rfl, pt5.sq hrS, rfl, by decide, fun u2 nu2 => ?_⟩
            have su2 := same_new (o := .tup []) nu2
            refine ⟨.tuple (dB b2), .tuple [], ((t2.pt pt5).pt su2.pt).dp, .tup (.inl (.inl upd_same)) .nil, sh2, sh0, _, rfl, rd_ifE (fun R h => ⟨_, rfl, l, _, rfl, .inl (SqL.of (su2 _ _ hl5)), h⟩) (fun R h => ⟨_, rfl, h⟩) ?_⟩
            rw [eqv_empty]
            have eB : (if (!b2.isEmpty) = true then V.int ((us5.length : Nat) : Int) else V.int (e' : Int)) = V.int ((if b2.isEmpty then e' else us5.length : Nat) : Int) := pick_eq
            rw [eB, l5]
            exact ⟨rfl, su2⟩
          · rintro σ2 H6 ⟨rfl, s6⟩
            have pt6 := pt5.trans s6.pt
            refine ⟨_, rfl, _, rfl, _, _, _, _, rfl, rfl, pt6.sq hrS, rfl, _, rfl, l, _, _, v2, b2, e', d + 1, rfl, s6 _ _ hl5, hu5.pt s6.pt, t2.pt pt6, ok2, by omega, by omega, by rw [List.length_append, List.length_append, ← hDl, List.length_map, entsB_len]; show us.length + 1 + _ + _ ≤ 1000; omega, fun us7 H7 k7 hl7 hu7 => ?_⟩
            rw [List.length_append, List.length_append, ← hDl, List.length_map, entsB_len] at hu7
            have k07 : Kp l G H7 := (k05.same s6).trans k7
            have pt7 := Kp.pt hl3 k07
            refine ⟨_, rfl, _, rfl, _, rfl, by show 2 ≤ sizeLine; decide, fun q1 nq1 => ⟨by show 2 ≤ sizeLine; decide, fun q2 nq2 => ?_⟩⟩
            have s1 := same_new (o := .tup [V.int ((if b1.isEmpty then e' else us.length + 1 : Nat) : Int), V.int ((if b2.isEmpty then e' else us.length + 1 + (rowsB b1).length : Nat) : Int)]) nq1
            have s4 := same_new (o := .tup [V.ref ra, V.ref q1]) nq2
            have sA := s1.trans s4
            have hlA := sA _ _ hl7
            have l7 := hu7.len
            rw [List.length_append, List.length_append, List.length_append, ← hDl] at l7
            refine ⟨_, rfl, _, rfl, l, _, _, us.length, rfl, rfl, hlA, ixN_of (by rw [l7]; show us.length < us.length + 1 + _ + _; omega), ?_⟩
            have pl := Pt.lst (o := .lst (us7.set us.length (.ref q2))) hlA
            have ptA := sA.pt.trans pl
            have huA := Tvs.set us.length (hu7.pt ptA) (d := dE (.either b1 b2, [if b1.isEmpty then e' else us.length + 1, if b2.isEmpty then e' else us.length + 1 + (rowsB b1).length])) (v := .ref q2) (.tup (pl.sq (.inl (.inl upd_same))) (.cons (Tv.pt (pt7.trans ptA) (.tup hrS (.cons (.str _) (.cons t1 (.cons t2 .nil))))) (.cons (.tup ((s4.pt.trans pl).sq (.inl (.inl upd_same))) (.cons (.int _) (.cons (.int _) .nil))) .nil)))
            refine fin _ _ _ _ ((k07.same sA).put (o := .lst (us7.set us.length (.ref q2)))) upd_same ?_
            rw [List.append_assoc, List.append_assoc, List.singleton_append, hDl, set_mid, ← hDl, ← List.map_append] at huA
            rw [entsR_either, List.map_cons]
            exact huA
    · rintro σ' H' ⟨us, don, y3, y4, y5, y6, y7, y8, rfl, kp, hl, hu, he⟩
      have e0 : ∀ m, xs.length ≤ m → b.drop m = [] := fun m hm => List.drop_eq_nil_of_le (by omega)
      rw [e0 _ (by omega)] at he
      have e1 : don = entsB b D.length e := by
        rw [← he]
        exact (List.append_nil _).symm
      rw [e1] at hu
      exact k us H' kp hl hu
end
end K24
set_option Elab.async false
set_option linter.all false
set_option maxRecDepth 100000
set_option maxHeartbeats 4000000
/-! Rules of my own: set(l), l a list of texts. -/
namespace ZR
open PySem PySem.Spec PyProof.Rows L2 ZX PM
section
variable {P : Program} {w : World} {A : Around} {E : Value → Shared → Prop} {s : Shared}
theorem strs_get : ∀ {us : List Value} {xs : List Str}, StrsAre us xs → ∀ (i : Nat) (v : Value), us[i]? = some v → ∃ x t, xs[i]? = some x ∧ v = .str x t
  | _, _, .nil, i, v, h => by simp at h
  | _, _, .cons n t hr, 0, v, h => by
    simp at h
    exact ⟨_, t, rfl, h.symm⟩
  | _, _, .cons n t hr, i + 1, v, h => by
    simp only [List.getElem?_cons_succ] at h
    obtain ⟨x, t', e1, e2⟩ := strs_get hr i v h
    exact ⟨x, t', by simpa using e1, e2⟩
theorem set_update_strs {I : Addr} {fp wr : List Addr} {G : Array GenState → Array GenState → Prop} {n : Nat} {Pv : Nat → Value → Prop} {St : Nat → Shared → Prop} {R : Result → Shared → Prop}
    (W : WalksS P w A.in1 I fp wr G n Pv St) (S : Addr) (hSf : S ∉ fp) (ns : List Str) (hn : n = ns.length) (hb : ns.length + 1 < scanBound) (hval : ∀ i v, Pv i v → ∃ k t, ns[i]? = some k ∧ v = .str k t) :
    ∀ (k i : Nat) (s : Shared), n - i = k → i ≤ n → St i s → SetS w s.heap S (insAll (ns.take i)) →
      (∀ s', Moved (S :: wr) G s s' → SetS w s'.heap S (insAll ns) → R (.ok (.ret .none)) s') →
      codeAny (model P w) A (.builtin "set.update.loop" ⟨[.ref S, .ref I], []⟩) R s := by
  have hSw : S ∉ wr := fun h => hSf (W.sub _ h)
  have hsub : ∀ b ∈ wr, b ∈ S :: wr := fun b hb => List.mem_cons_of_mem _ hb
  intro k
  induction k with
  | zero =>
    intro i s hk' hi hst hS hR
    have hin : i = n := by omega
    subst hin
    refine codeAny_builtin F.entry_set_update_loop ?_
    rw [Around.under_plainId F.plain_set_update_loop _]
    show wpAny _ A.in1 (pyNext (.ref I) >>= _) _ _ s
    refine wpAny_bind (W.done s _ _ hst fun s' hm => ?_)
    show wpAny _ A.in1 (ret Value.none) _ _ s'
    have e : ns.take i = ns := List.take_of_length_le (by omega)
    rw [e] at hS
    exact wpAny_pure (hR s' (hm.mono hsub) (hS.at fun o e => hm.heap S o hSw e))
  | succ k ih =>
    intro i s hk' hi hst hS hR
    have hlt : i < n := by omega
    refine codeAny_builtin F.entry_set_update_loop ?_
    rw [Around.under_plainId F.plain_set_update_loop _]
    show wpAny _ A.in1 (pyNext (.ref I) >>= _) _ _ s
    refine wpAny_bind (W.item i s _ _ hlt hst fun v s' hP hst' hm => ?_)
    obtain ⟨z, t, hz, rfl⟩ := hval i v hP
    have hS' : SetS w s'.heap S (insAll (ns.take i)) := hS.at fun o e => hm.heap S o hSw e
    have hil := (insAll_ok (ns.take i)).2.2
    rw [List.length_take] at hil
    show wpAny _ A.in1 (holding [Value.str z t] (setAdd S (.str z t)) >>= _) _ _ s'
    refine wpAny_bind (wpAny_holding ?_)
    unfold setAdd
    refine wpAny_holding ?_
    refine wpAny_bind ((PySem.strKind P w).pyHash (k := z) (strKind_is _ _ _ _) ?_)
    refine addS_hashed (s := { s' with toks := s'.toks + 1 }) hS' (by omega) fun h' _ hsb hS2 => ?_
    have hS3 : SetS w h' S (insAll (ns.take (i + 1))) := by
      rw [List.take_add_one, hz]
      show SetS w h' S (insAll (ns.take i ++ [z]))
      rw [insAll_snoc]
      exact hS2
    refine wpAny_pure ⟨plainId_quiet F.plain_set_update_loop _, ih (i + 1) _ (by omega) hlt (W.frame _ s' _ _ hst' (Nat.le_succ _) fun b hb o e => ?_) hS3 fun s'' hm'' hS'' => ?_⟩
    · rw [hsb.2 b (fun h : b = S => hSf (by rw [← h]; exact hb))]; exact e
    · refine hR s'' (Moved.trans W.gtrans ((hm.mono hsub).then_heap (Nat.le_succ _) fun b o hb e => ?_) hm'') hS''
      rw [hsb.2 b (fun h : b = S => hb (by rw [h]; exact List.mem_cons_self))]; exact e
set_option maxRecDepth 100000 in
set_option maxHeartbeats 3200000 in
theorem call_set_listT {l : Addr} {items : Array Value} (ns : List Str) {Q : Value → Shared → Prop} (hh : A.handled = none) (hl : s.heap.IsList l items) (hit : StrsAre items.toList ns) (hb : ns.length + 1 < scanBound)
    (h : ∀ (h' : Heap) (tk : Nat), SetS w h' s.heap.objs.size (insAll ns) → (∀ b o, s.heap.get? b = some o → h'.get? b = some o) → Q (.ref s.heap.objs.size) { s with heap := h', toks := tk }) :
    wpAny (model P w) A (call (.type "set") [.ref l]) Q E s := by
  have hisz : items.size = ns.length := by rw [← StrsAre.len_eq hit, Array.length_toList]
  obtain ⟨c, tl, hmro⟩ := F.called_set.mro
  have hmade := F.called_set.made
  have hsub := F.called_set.sub
  refine wpAny_call (codeAny_of_tree ?_)
  show wpAny _ _ (callAny (.type "set") _) _ _ _
  refine wpAny_pure ⟨Code.quiet_builtin _ (by decide +kernel), codeAny_builtin F.entry_type_call ?_⟩
  rw [Around.under_plain (weight_type_call_type "set" [.ref l] []) rfl]
  have h1 := F.called_set.notType
  have h2 := F.called_set.canCreate
  have hct := F.typeCall_set_1 (.ref l)
  repeat (any_goals (first | assumption | wp_step))

  refine codeAny_mono (code_set_led1 (.ref l) (E := E) (Q₁ := fun obj s₁ => obj = .ref s.heap.objs.size ∧ s₁ = { s with heap := s.heap.push { cls := .type "set", dict := none, data := .set #[] 0 (.fresh 0 0 (!w.params.followText "set-order")) } }) ⟨rfl, rfl⟩) fun r s₁ hr => ?_
  cases r with
  | error e => exact hr
  | ok fl =>
    cases fl with
    | ret obj =>
      obtain ⟨rfl, rfl⟩ := hr
      have hS : (s.heap.push { cls := .type "set", dict := none, data := .set #[] 0 (.fresh 0 0 (!w.params.followText "set-order")) }).get? s.heap.objs.size = some { cls := .type "set", dict := none, data := .set #[] 0 (.fresh 0 0 (!w.params.followText "set-order")) } := Heap.get?_push_size _ rfl
      have hT : Shared.TypeIs { s with heap := s.heap.push { cls := .type "set", dict := none, data := .set #[] 0 (.fresh 0 0 (!w.params.followText "set-order")) } } (.ref s.heap.objs.size) "set" := ⟨_, hS, rfl⟩
      have hli := F.called_set.init.lookup
      have hbi := F.called_set.init.bind (.ref s.heap.objs.size)
      repeat (any_goals (first | assumption | wp_step))

      refine codeAny_mono (codeAny_call_builtin (R := wants (fun r s₂ => r = .none ∧ ∃ h' tk, s₂ = { s with heap := h', toks := tk } ∧ SetS w h' s.heap.objs.size (insAll ns) ∧
          (∀ b o, s.heap.get? b = some o → h'.get? b = some o)) E) F.called_set.init.plain F.entry_set_init (check_set_init_1 hT ?_)) fun r₂ s₂ hr₂ => ?_
      · obtain ⟨ol, hol, hcl, nl, hdl⟩ := hl
        obtain ⟨ocls, odict, odata, oslots⟩ := ol
        simp only at hcl hdl
        subst hcl; subst hdl
        have hol' : (s.heap.push { cls := .type "set", dict := none, data := .set #[] 0 (.fresh 0 0 (!w.params.followText "set-order")) }).get? l = some { cls := .type "list", dict := odict, data := .seq items nl, slots := oslots } := Heap.get?_push_of_some _ hol
        have hsls := F.sub_list_set
        have hslf := F.sub_list_frozenset
        have hne : (Value.type "list" == Value.type "dict") = false := by decide
        have hl1 : (s.heap.push { cls := .type "set", dict := none, data := .set #[] 0 (.fresh 0 0 (!w.params.followText "set-order")) }).IsList l items := ⟨_, hol', rfl, nl, rfl⟩
        unfold Builtin.«set.__init__» noKeywords Builtin.Frozenset.updateFrom
        generalize hPI : pyIter = PI
        wp_walk
        subst hPI

        refine wpAny_pyIter_list hl1 ?_
        refine wpAny_bind (wpAny_runValue ?_)
        have hlS : l < s.heap.objs.size := Heap.lt_size hol
        have hh3 : A.in1.in1.in1.handled = none := by simp [hh]
        have hneI : l ≠ (s.heap.push { cls := .type "set", dict := none, data := .set #[] 0 (.fresh 0 0 (!w.params.followText "set-order")) }).objs.size := by
          rw [Heap.size_push]; exact Nat.ne_of_lt (Nat.lt_succ_of_lt hlS)
        have hSf : s.heap.objs.size ∉ [(s.heap.push { cls := .type "set", dict := none, data := .set #[] 0 (.fresh 0 0 (!w.params.followText "set-order")) }).objs.size, l] := by
          rw [Heap.size_push]; simp only [List.mem_cons, List.mem_singleton, List.not_mem_nil, or_false, not_or]
          exact ⟨Nat.ne_of_lt (Nat.lt_succ_self _), Nat.ne_of_gt hlS⟩
        have hval : ∀ (i : Nat) (v : Value), items[i]? = some v → ∃ k t, ns[i]? = some k ∧ v = .str k t := fun i v hv => strs_get hit i v (by rw [Array.getElem?_toList]; exact hv)
        refine set_update_strs ((Walks.list hh3 _ l hneI items).toS) s.heap.objs.size
          hSf ns hisz hb hval (items.size - 0) 0 _ (by omega) (Nat.zero_le _)
          ⟨⟨_, Heap.get?_push_size _ rfl, rfl, rfl⟩, (hl1.push _)⟩ ?hS0 ?hR
        case hS0 => exact (setS_fresh (h := s.heap) w).at fun o e => Heap.get?_push_of_some _ e
        case hR =>
          intro s' hm hS'
          obtain ⟨h', g2, d', tk', os'⟩ := s'
          have eg : g2 = s.gens := hm.gens
          have ed : d' = s.drawn := hm.drawn
          have eo : os' = s.os := hm.os
          subst eg; subst ed; subst eo
          show wpAny _ _ _ _ _ _
          refine wpAny_pure ?_
          show wpAny _ _ (ret Value.none) _ _ _
          refine wpAny_pure ⟨rfl, h', tk', rfl, hS', fun b o e => ?_⟩
          have hb0 : b < s.heap.objs.size := Heap.lt_size e
          have hb1 : b ≠ s.heap.objs.size := Nat.ne_of_lt hb0
          have hb2 : b ≠ (s.heap.push { cls := .type "set", dict := none, data := .set #[] 0 (.fresh 0 0 (!w.params.followText "set-order")) }).objs.size := by
            rw [Heap.size_push]; exact Nat.ne_of_lt (Nat.lt_succ_of_lt hb0)
          exact hm.heap b o (by simp only [List.mem_cons, List.mem_singleton, List.not_mem_nil, or_false, not_or]; exact ⟨hb1, hb2⟩) (Heap.get?_push_of_some _ (Heap.get?_push_of_some _ e))

      · cases r₂ with
        | error e => exact hr₂
        | ok fl₂ =>
          cases fl₂ with
          | ret r =>
            obtain ⟨rfl, h', tk, rfl, hS', hk'⟩ := hr₂
            repeat (any_goals (first | assumption | wp_step))
            exact h _ _ hS' hk'
          | _ => exact hr₂.elim
    | _ => exact hr.elim
end
/-- set(l), l a list of texts -/
def rSetTx (K : PySem.W.Frag) (w : World) : List V → Hp → VK → Prop := fun vs H Q => ∃ (a : Addr) (ks : List Str), vs = [V.ref a] ∧ SqL K H a (ks.map V.str) ∧ ks.length + 1 < scanBound ∧ ∀ p : Addr, H p = none → Q (.ref p) (upd H p (SetTO w p (insAll ks)))
theorem call_setTx {X : Cx} (hc : X.calm = true) : CallR X (.type "set") (rSetTx X.K X.w) := by
  intro pins s σ H vs us Q I r h
  obtain ⟨a, ks, rfl, ha, few, q⟩ := h
  rw [Vals.ref1 r]
  obtain ⟨its, rv, hl, hz⟩ := I.list ha
  refine call_set_listT ks (I.ok.hd hc) hl.isList (strsAre_of rv) few fun h' tk hS hk => ?_
  exact ⟨.ref s.heap.objs.size, _, I.laid (t' := tk) (o := SetTO X.w s.heap.objs.size (insAll ks)) hk (Nat.le_refl _) (setTO_new hS), rfl, q _ (I.hok.fresh (Nat.le_refl _))⟩
end ZR
set_option Elab.async false
set_option linter.all false
set_option maxRecDepth 100000
set_option maxHeartbeats 4000000
namespace K24
open PySem PySem.Spec PyProof.Rows L2 ZX PM ZR
abbrev sLTable : Stmt := top 63
abbrev sLNames : Stmt := top 64
/-- the table of a block -/
def tabB (b : List Rw) : List (Rw × List Nat) := entsB b 0 (rowsB b).length
theorem tab_len (b : List Rw) : (tabB b).length = (rowsB b).length := entsB_len ..
theorem tab_fst (b : List Rw) : (tabB b).map Prod.fst = rowsB b := by
  unfold tabB entsB
  rw [List.map_fst_zip]
  rw [leadsB_len]
  exact Nat.le_refl _
def spLTable (K : PySem.W.Frag) : Sp := fun vs H Q _ => ∃ (v : V) (b : List Rw), vs = [v] ∧ BV K H v b ∧ Good b ∧ ∀ l us H', Same H H' → H l = none → H' l = some (.lst us) → Tvs K H' us ((tabB b).map dE) → Q (.ref l) H'
def spLNames (K : PySem.W.Frag) : Sp := fun vs H Q _ => ∃ (l : Addr) (us : List V) (b : List Rw), vs = [.ref l] ∧ H l = some (.lst us) ∧ Tvs K H us ((tabB b).map dE) ∧ Good b ∧ ∀ t ys H', Same H H' → H t = none → IsLot ys ((rowsB b).flatMap namesR) → H' t = some (.lst (ys.map V.str)) → Q (.ref t) H'
theorem _root_.PM.Tv.ent {K : PySem.W.Frag} {H : Hp} {v : V} {r : Rw} {ls : List Nat} (h : Tv K H v (dE (r, ls))) : ∃ a x y, v = .ref a ∧ SqT K H a [x, y] ∧ RV K H x r ∧ Tv K H y (encL ls) := by
  obtain ⟨a, xs, rfl, hS, ht⟩ := h.tupI
  cases ht with
  | cons h1 t => cases t with
    | cons h2 t => cases t with
      | nil => exact ⟨a, _, _, rfl, hS, h1, h2⟩
section
variable {P : Program} {w : World} {K : PySem.W.Frag} {mg : Str → Option Value} {base : Heap}
theorem scTable : FnScope ["_law_block", "_law_table_here"] ["_law_block"] (defScope sLTable) := ⟨rfl, rfl, rfl, by decide +kernel, rfl, by decide +kernel, by decide +kernel⟩
theorem ok_ltable {f : Addr} {fd : FuncData} (F : FnP K "_law_table" sLTable f fd) (T : Bi mg) (C__law_size : Cal P w K mg base "_law_size" 5 ["_law_block"] (spLSize K 4)) (C__law_lay : Cal P w K mg base "_law_lay" 9 ["_law_table_here", "_law_block", "_law_behind"] (spLLay K 4)) : FnOk P w K mg base CX0 10 f fd ["_law_block"] (spLTable K) := by
  refine F.ok scTable (fun vs H Q E h => ?_) (fun cdv A outer s H vs Q E hr h => ?_)
  · obtain ⟨v, b, rfl, _⟩ := h
    rfl
  · obtain ⟨v, b, rfl, tv, G, k⟩ := h
    have hr__law_size := hr.mono (show 5 ≤ 9 by decide)
    have hr__law_lay := hr
    have hdep := ok_depB G.ok (by decide)
    have l30 := G.l30
    refine ⟨_, PSs.nox (pss_cons (ps_set (i := 1) scTable.nd rfl (Or.inl rfl) (pe_lst pa_nil))
    (pss_cons (ps_expr (pcal C__law_lay hr__law_lay rfl (pa_cons (pv 1) (pa_cons (pv 0) (pa_cons (pcal C__law_size hr__law_size rfl (pa_cons (pv 0) pa_nil)) pa_nil)))))
    (pss_one (ps_ret (pv 1))))), ?_⟩
    refine ⟨by decide, fun l nl => ?_⟩
    have sl := same_new (o := .lst []) nl
    refine ⟨_, rfl, _, rfl, _, rfl, v, b, rfl, tv.pt sl.pt, by omega, by omega, fun H2 s2 => ?_⟩
    refine ⟨l, [], [], v, b, (rowsB b).length, 1, rfl, s2 _ _ upd_same, .nil, tv.pt (sl.trans s2).pt, G.ok, by omega, by omega, by show 0 + _ ≤ 1000; omega, fun us H3 k3 hl3 hu3 => ?_⟩
    refine ⟨_, rfl, k l us H3 (fun a o e => ?_) nl hl3 hu3⟩
    exact k3 a o (ne_of_none e nl) ((sl.trans s2) _ _ e)
theorem scLNames : FnScope ["_law_table_here", "_law_found", "_law_row", "_law_later"] ["_law_table_here"] (defScope sLNames) := ⟨rfl, rfl, rfl, by decide +kernel, rfl, by decide +kernel, by decide +kernel⟩
theorem ok_lnames {f : Addr} {fd : FuncData} (F : FnP K "_law_names" sLNames f fd) (T : Bi mg) : FnOk P w K mg base CX0 1 f fd ["_law_table_here"] (spLNames K) := by
  refine F.ok scLNames (fun vs H Q E h => ?_) (fun cdv A outer s H vs Q E hr h => ?_)
  · obtain ⟨l, us, b, rfl, _⟩ := h
    rfl
  · obtain ⟨l2, us, b, rfl, hl2, hu, G, k⟩ := h
    have l30 := G.l30
    have hn4 := ok_names_B G.ok
    have hlen := fm_bound (rowsB b) hn4
    refine ⟨_, PSs.nox (pss_cons (ps_set (i := 1) scLNames.nd rfl (Or.inl rfl) (pe_lst pa_nil))
    (pss_cons (ps_for PassesOwn.never rfl (pi_list (pv 0)) (pg_tup rfl (pgs_cons (pg_name (i := 2) scLNames.nd rfl (Or.inl rfl)) (pgs_cons (pg_name (i := 3) scLNames.nd rfl (Or.inl rfl)) pgs_nil))) (pss_one (ps_if (pt_cmpR op_eq (pe_ix ix_tup (pv 2) pe_int (fun _ _ => rfl)) pe_str (nomark _)) (pss_one (ps_expr (pe_bm PySem.F.plainAttrs_list PySem.F.slot_list_extend PySem.F.type_list_extend mt_extend (pv 1) (pa_cons (pe_op op_cat (pe_lst (pa_cons (pe_ix ix_tup (pv 2) pe_int (fun _ _ => rfl)) pa_nil)) (pe_callTy call_list_of (by rfl) T.b_list (by decide +kernel) (pa_cons (pe_ix ix_tup (pv 2) pe_int (fun _ _ => rfl)) pa_nil))) pa_nil)))) (pss_one (ps_if (pt_cmpR op_eq (pe_ix ix_tup (pv 2) pe_int (fun _ _ => rfl)) pe_str (nomark _)) (pss_one (ps_expr (pe_bm PySem.F.plainAttrs_list PySem.F.slot_list_extend PySem.F.type_list_extend mt_extend (pv 1) (pa_cons (pe_lst (pa_cons (pe_ix ix_tup (pv 2) pe_int (fun _ _ => rfl)) (pa_cons (pe_ix ix_tup (pv 2) pe_int (fun _ _ => rfl)) pa_nil))) pa_nil)))) (pss_one (ps_if (pt_cmpR op_in_seq (pe_ix ix_tup (pv 2) pe_int (fun _ _ => rfl)) (pe_tup (pa_cons pe_str (pa_cons pe_str (pa_cons pe_str pa_nil)))) (by with_unfolding_all rfl)) (pss_one (ps_expr (pe_bm PySem.F.plainAttrs_list PySem.F.slot_list_append PySem.F.type_list_append mt_append (pv 1) (pa_cons (pe_ix ix_tup (pv 2) pe_int (fun _ _ => rfl)) pa_nil)))) pss_nil)))))))
    (pss_one (ps_ret (pe_callB (call_sortTx rfl) (by rfl) T.b_sorted (by decide +kernel) (pa_cons (pe_callTy (call_setTx rfl) (by rfl) T.b_set (by decide +kernel) (pa_cons (pv 1) pa_nil)) pa_nil)))))), ?_⟩
    refine ⟨by decide, fun l nl => ?_⟩
    have sl := same_new (o := .lst []) nl
    have hul := hu.len
    rw [List.length_map, tab_len] at hul
    have nll : l ≠ l2 := (ne_of_none hl2 nl).symm
    refine ⟨_, rfl, l2, rfl, ⟨us, SqL.of (sl _ _ hl2)⟩, ?_⟩
    refine for_list (xs := us) (fun i σ' H' => ∃ y z, σ' = [some (.ref l2), some (.ref l), y, z] ∧ Same H H' ∧ H' l = some (.lst ((((rowsB b).take i).flatMap namesR).map V.str)) ∧ H' l2 = some (.lst us)) ⟨_, _, rfl, sl, upd_same, sl _ _ hl2⟩ ?_ ?_ ?_
    · rintro i σ' H' _ ⟨y, z, rfl, sm, hl, h2⟩
      exact SqL.of h2
    · rintro i x σ' H' hx ⟨y, z, rfl, sm, hl, h2⟩
      obtain ⟨r, ls, hr0, tx⟩ : ∃ r ls, (rowsB b)[i]? = some r ∧ Tv K H' x (dE (r, ls)) := by
        have hil : i < us.length := (List.getElem?_eq_some_iff.mp hx).1
        have hil' : i < (tabB b).length := by
          rw [tab_len]
          omega
        obtain ⟨u, hu1, hu2⟩ := Tvs.get (i := i) (d := dE (tabB b)[i]) (hu.pt sm.pt) (by rw [List.getElem?_map, List.getElem?_eq_getElem hil']; rfl)
        rw [hx] at hu1
        cases hu1
        refine ⟨(tabB b)[i].1, (tabB b)[i].2, ?_, hu2⟩
        rw [← tab_fst, List.getElem?_map, List.getElem?_eq_getElem hil']
        rfl
      obtain ⟨xa, xr, xl, rfl, hxS, tr, _⟩ := tx.ent
      have hle := fm_le1 (f := namesR) hr0
      rw [List.length_append] at hle
      obtain ⟨ra, tl, rfl, hrS, hrt⟩ := tr.rowI
      have go : ∀ (G2 : Hp), Same H' G2 → ∃ y z, [some (V.ref l2), some (V.ref l), some (V.ref ra), some xl] = [some (.ref l2), some (.ref l), y, z] ∧ Same H (upd G2 l (.lst ((((rowsB b).take i).flatMap namesR).map V.str ++ (namesR r).map V.str))) ∧ (upd G2 l (.lst ((((rowsB b).take i).flatMap namesR).map V.str ++ (namesR r).map V.str))) l = some (.lst ((((rowsB b).take (i + 1)).flatMap namesR).map V.str)) ∧ (upd G2 l (.lst ((((rowsB b).take i).flatMap namesR).map V.str ++ (namesR r).map V.str))) l2 = some (.lst us) := fun G2 s2 => by
        refine ⟨_, _, rfl, (sm.trans s2).put nl, ?_, ?_⟩
        · rw [upd_same, fm_take hr0, List.map_append]
        · rw [upd_ne nll.symm]
          exact s2 _ _ h2
      have hsz : ((((rowsB b).take i).flatMap namesR).map V.str).length + ((namesR r).map V.str).length ≤ sizeLine := by
        rw [List.length_map, List.length_map]
        exact Nat.le_trans (show _ ≤ 1000 by omega) (by decide)
      have hsz1 : ((((rowsB b).take i).flatMap namesR).map V.str).length < sizeLine := by
        rw [List.length_map]
        exact Nat.lt_of_le_of_lt (show _ ≤ 1000 by omega) (by decide)
      refine ⟨xa, _, rfl, hxS, rfl, _, _, rfl, _, _, rfl, rfl, ?_⟩
      refine ⟨_, rfl, _, _, _, _, rfl, rfl, hrS, at0, rfl, _, rfl, ?_⟩
      cases r with
      | note x o ps =>
        obtain ⟨v1, v2, v3, rfl, t1, t2, t3⟩ := hrt.three
        cases t1.strI
        cases t2.strI
        obtain ⟨a3, xs3, rfl, hS3, ht3⟩ := t3.tupI
        have e3 := Tvs.strs ht3
        subst e3
        refine ifD rfl ⟨_, rfl, .inl ⟨rfl, _, SqL.of hl⟩, _, rfl, _, _, _, _, rfl, rfl, hrS, rfl, by show 1 ≤ sizeLine; decide, fun a na => ?_⟩
        have sa := same_new (o := .lst [V.str x]) na
        refine ⟨_, rfl, _, _, _, _, rfl, rfl, sa.pt.sq hrS, rfl, a3, _, rfl, .inr (sa.pt.sq hS3), fun q nq => ?_⟩
        have sq := same_new (o := .lst (ps.map V.str)) nq
        have hpl : ps.length ≤ 3 := by
          have h4 := hn4 _ (List.mem_of_getElem? hr0)
          have : (ps.length + 1) ≤ 4 := h4
          omega
        refine ⟨a, q, _, _, rfl, rfl, sq _ _ upd_same, upd_same, by rw [List.length_map]; exact Nat.le_trans (show [V.str x].length + ps.length ≤ 4 by show 1 + ps.length ≤ 4; omega) (by decide), fun z nz => ?_⟩
        have sz := same_new (o := .lst ([V.str x] ++ ps.map V.str)) nz
        exact ⟨l, z, _, _, rfl, rfl, ((sa.trans sq).trans sz) _ _ hl, upd_same, hsz, go _ ((sa.trans sq).trans sz)⟩
      | copy x y =>
        obtain ⟨v1, v2, rfl, t1, t2⟩ := hrt.two
        cases t1.strI
        cases t2.strI
        refine ifDF (neS (a := "copy") (b := "note") (by decide +kernel)) ⟨_, rfl, _, _, _, _, rfl, rfl, hrS, at0, rfl, _, rfl, ifD rfl ⟨_, rfl, .inl ⟨rfl, _, SqL.of hl⟩, _, rfl, _, _, _, _, rfl, rfl, hrS, rfl, _, rfl, _, _, _, _, rfl, rfl, hrS, rfl, by show 2 ≤ sizeLine; decide, fun a na => ?_⟩⟩
        have sa := same_new (o := .lst [V.str x, V.str y]) na
        exact ⟨l, a, _, _, rfl, rfl, sa _ _ hl, upd_same, hsz, go _ sa⟩
      | give x i1 =>
        obtain ⟨v1, v2, rfl, t1, t2⟩ := hrt.two
        cases t1.strI
        refine ifDF (neS (a := "give") (b := "note") (by decide +kernel)) ⟨_, rfl, _, _, _, _, rfl, rfl, hrS, at0, rfl, _, rfl, ifDF (neS (a := "give") (b := "copy") (by decide +kernel)) ⟨_, rfl, _, _, _, _, rfl, rfl, hrS, at0, by decide, fun t nt => ?_⟩⟩
        have st := same_new (o := .tup [V.str "give", V.str "ask", V.str "print"]) nt
        refine ⟨_, _, rfl, .inr (.inl (.inl upd_same)), rfl, rfl, _, rfl, ?_⟩
        refine ifB (show inV (V.str (Str.ofString "give")) [V.str (Str.ofString "give"), V.str (Str.ofString "ask"), V.str (Str.ofString "print")] = true by decide +kernel) ⟨_, rfl, .inl ⟨rfl, _, SqL.of (st _ _ hl)⟩, _, rfl, _, _, _, _, rfl, rfl, st.pt.sq hrS, rfl, l, _, _, rfl, rfl, st _ _ hl, hsz1, go _ st⟩
      | ask x =>
        obtain ⟨v1, rfl, t1⟩ := hrt.one
        cases t1.strI
        refine ifDF (neS (a := "ask") (b := "note") (by decide +kernel)) ⟨_, rfl, _, _, _, _, rfl, rfl, hrS, at0, rfl, _, rfl, ifDF (neS (a := "ask") (b := "copy") (by decide +kernel)) ⟨_, rfl, _, _, _, _, rfl, rfl, hrS, at0, by decide, fun t nt => ?_⟩⟩
        have st := same_new (o := .tup [V.str "give", V.str "ask", V.str "print"]) nt
        refine ⟨_, _, rfl, .inr (.inl (.inl upd_same)), rfl, rfl, _, rfl, ?_⟩
        refine ifB (show inV (V.str (Str.ofString "ask")) [V.str (Str.ofString "give"), V.str (Str.ofString "ask"), V.str (Str.ofString "print")] = true by decide +kernel) ⟨_, rfl, .inl ⟨rfl, _, SqL.of (st _ _ hl)⟩, _, rfl, _, _, _, _, rfl, rfl, st.pt.sq hrS, rfl, l, _, _, rfl, rfl, st _ _ hl, hsz1, go _ st⟩
      | prt x =>
        obtain ⟨v1, rfl, t1⟩ := hrt.one
        cases t1.strI
        refine ifDF (neS (a := "print") (b := "note") (by decide +kernel)) ⟨_, rfl, _, _, _, _, rfl, rfl, hrS, at0, rfl, _, rfl, ifDF (neS (a := "print") (b := "copy") (by decide +kernel)) ⟨_, rfl, _, _, _, _, rfl, rfl, hrS, at0, by decide, fun t nt => ?_⟩⟩
        have st := same_new (o := .tup [V.str "give", V.str "ask", V.str "print"]) nt
        refine ⟨_, _, rfl, .inr (.inl (.inl upd_same)), rfl, rfl, _, rfl, ?_⟩
        refine ifB (show inV (V.str (Str.ofString "print")) [V.str (Str.ofString "give"), V.str (Str.ofString "ask"), V.str (Str.ofString "print")] = true by decide +kernel) ⟨_, rfl, .inl ⟨rfl, _, SqL.of (st _ _ hl)⟩, _, rfl, _, _, _, _, rfl, rfl, st.pt.sq hrS, rfl, l, _, _, rfl, rfl, st _ _ hl, hsz1, go _ st⟩
      | either b1 b2 =>
        refine ifDF (neS (a := "either") (b := "note") (by decide +kernel)) ⟨_, rfl, _, _, _, _, rfl, rfl, hrS, at0, rfl, _, rfl, ifDF (neS (a := "either") (b := "copy") (by decide +kernel)) ⟨_, rfl, _, _, _, _, rfl, rfl, hrS, at0, by decide, fun t nt => ?_⟩⟩
        have st := same_new (o := .tup [V.str "give", V.str "ask", V.str "print"]) nt
        refine ⟨_, _, rfl, .inr (.inl (.inl upd_same)), rfl, rfl, _, rfl, ?_⟩
        refine ifBF (show inV (V.str (Str.ofString "either")) [V.str (Str.ofString "give"), V.str (Str.ofString "ask"), V.str (Str.ofString "print")] = false by decide +kernel) ⟨_, _, rfl, sm.trans st, ?_, st _ _ h2⟩
        rw [fm_take hr0]
        show _ = some (HO.lst ((_ ++ []).map V.str))
        rw [List.append_nil]
        exact st _ _ hl
      | again b1 =>
        refine ifDF (neS (a := "again") (b := "note") (by decide +kernel)) ⟨_, rfl, _, _, _, _, rfl, rfl, hrS, at0, rfl, _, rfl, ifDF (neS (a := "again") (b := "copy") (by decide +kernel)) ⟨_, rfl, _, _, _, _, rfl, rfl, hrS, at0, by decide, fun t nt => ?_⟩⟩
        have st := same_new (o := .tup [V.str "give", V.str "ask", V.str "print"]) nt
        refine ⟨_, _, rfl, .inr (.inl (.inl upd_same)), rfl, rfl, _, rfl, ?_⟩
        refine ifBF (show inV (V.str (Str.ofString "again")) [V.str (Str.ofString "give"), V.str (Str.ofString "ask"), V.str (Str.ofString "print")] = false by decide +kernel) ⟨_, _, rfl, sm.trans st, ?_, st _ _ h2⟩
        rw [fm_take hr0]
        show _ = some (HO.lst ((_ ++ []).map V.str))
        rw [List.append_nil]
        exact st _ _ hl
    · rintro σ' H' ⟨y, z, rfl, sm, hl, h2⟩
      have e : (rowsB b).take us.length = rowsB b := by rw [hul, List.take_length]
      rw [e] at hl
      have hin := (insAll_ok ((rowsB b).flatMap namesR)).2.2
      refine ⟨_, rfl, l, _, rfl, SqL.of hl, by show _ < 4096; omega, fun q nq => ?_⟩
      refine ⟨q, _, rfl, upd_same, by omega, fun ys z pm so nz => ?_⟩
      have s3 := (same_new (o := SetTO w q (insAll ((rowsB b).flatMap namesR))) nq).trans (same_new (o := .lst (ys.map V.str)) nz)
      exact k z ys _ (sm.trans s3) ((sm.trans (same_new nq)).free nz) (lot_of pm so) upd_same
end
end K24
set_option Elab.async false
set_option linter.all false
set_option maxRecDepth 100000
set_option maxHeartbeats 4000000
/-! Sets of names as numbers. -/
namespace PM
open PySem
/-- one bit for each name, the first name's the least -/
def maskS {α : Type} : List α → (α → Bool) → Nat
  | [], _ => 0
  | y :: ys, S => (if S y then 1 else 0) + 2 * maskS ys S
section
variable {α : Type}
theorem maskS_lt : ∀ (ys : List α) (S : α → Bool), maskS ys S < 2 ^ ys.length
  | [], _ => Nat.one_pos
  | y :: ys, S => by
    have := maskS_lt ys S
    rw [maskS, List.length_cons, Nat.pow_succ]
    split <;> omega
theorem maskS_congr : ∀ {ys : List α} {S S' : α → Bool}, (∀ y ∈ ys, S y = S' y) → maskS ys S = maskS ys S'
  | [], _, _, _ => rfl
  | y :: ys, S, S', h => by
    rw [maskS, maskS, h y List.mem_cons_self, maskS_congr fun z hz => h z (List.mem_cons_of_mem _ hz)]
theorem maskS_inj : ∀ {ys : List α} {S S' : α → Bool}, maskS ys S = maskS ys S' → ∀ y ∈ ys, S y = S' y
  | [], _, _, _ => fun _ h => nomatch h
  | y :: ys, S, S', h => by
    rw [maskS, maskS] at h
    have h1 : maskS ys S = maskS ys S' := by
      split at h <;> split at h <;> omega
    have h2 : S y = S' y := by
      rw [h1] at h
      cases e : S y <;> cases e' : S' y <;> rw [e, e'] at h <;> simp at h <;> rfl
    intro z hz
    rcases List.mem_cons.mp hz with rfl | hz
    · exact h2
    · exact maskS_inj h1 z hz
theorem maskS_bit : ∀ {ys : List α} {S : α → Bool} {k : Nat} {y : α}, ys[k]? = some y → (maskS ys S).testBit k = S y
  | [], _, _, _, h => by simp at h
  | y :: ys, S, 0, z, h => by
    cases h
    rw [maskS, Nat.testBit_zero]
    cases S y <;> simp <;> omega
  | y :: ys, S, k + 1, z, h => by
    have e : (maskS (y :: ys) S).testBit (k + 1) = (maskS ys S).testBit k := by
      rw [Nat.testBit_succ, maskS]
      congr 1
      split <;> omega
    rw [e]
    exact maskS_bit (ys := ys) h
theorem maskS_off {y : Str} {ys : List Str} (nd : (y :: ys).Nodup) (b : Bool) (S : Str → Bool) : maskS ys (fun z => if z = y then b else S z) = maskS ys S :=
  maskS_congr fun z hz => if_neg fun e => by
    subst e
    exact (List.nodup_cons.mp nd).1 hz
theorem maskS_zero : ∀ {ys : List α}, maskS ys (fun _ => false) = 0
  | [] => rfl
  | y :: ys => by
    rw [maskS, maskS_zero]
    rfl
theorem maskS_pos {ys : List α} {S : α → Bool} : 0 < maskS ys S ↔ ∃ y ∈ ys, S y = true := by
  induction ys with
  | nil => simp [maskS]
  | cons y ys ih =>
    rw [maskS]
    constructor
    · intro h
      cases e : S y with
      | true => exact ⟨y, List.mem_cons_self, e⟩
      | false =>
        rw [e] at h
        obtain ⟨z, hz, e⟩ := ih.mp (by simp at h; omega)
        exact ⟨z, List.mem_cons_of_mem _ hz, e⟩
    · rintro ⟨z, hz, e⟩
      rcases List.mem_cons.mp hz with rfl | hz
      · rw [e]
        simp
        omega
      · have := ih.mpr ⟨z, hz, e⟩
        omega
/-- each number below the line is a set -/
theorem maskS_of (ys : List Str) (nd : ys.Nodup) : ∀ m : Nat, m < 2 ^ ys.length → ∃ S : Str → Bool, m = maskS ys S := by
  induction ys with
  | nil =>
    intro m h
    exact ⟨fun _ => false, by simp at h; rw [h]; rfl⟩
  | cons y ys ih =>
    intro m h
    rw [List.length_cons, Nat.pow_succ] at h
    obtain ⟨S, hS⟩ := ih (List.nodup_cons.mp nd).2 (m / 2) (by omega)
    refine ⟨fun z => if z = y then decide (m % 2 = 1) else S z, ?_⟩
    rw [maskS, if_pos rfl, maskS_off nd, ← hS]
    rcases Nat.mod_two_eq_zero_or_one m with e | e <;> rw [e] <;> simp <;> omega
end
theorem pow_testBit (k j : Nat) : (2 ^ k).testBit j = decide (k = j) := Nat.testBit_two_pow ..
theorem and_pow (m k : Nat) : m &&& 2 ^ k = if m.testBit k then 2 ^ k else 0 := by
  apply Nat.eq_of_testBit_eq
  intro j
  rw [Nat.testBit_and, pow_testBit]
  by_cases e : k = j
  · subst e
    cases h : m.testBit k <;> simp [Nat.testBit_two_pow]
  · cases h : m.testBit k <;> simp [e, Nat.testBit_two_pow]
/-- a set with one name put in or taken out -/
def putS (S : Str → Bool) (x : Str) (b : Bool) : Str → Bool := fun z => if z = x then b else S z
theorem maskS_put : ∀ {ys : List Str} {S : Str → Bool} {k : Nat} {x : Str}, ys.Nodup → ys[k]? = some x → S x = false → maskS ys (putS S x true) = maskS ys S + 2 ^ k
  | [], _, _, _, _, h, _ => by simp at h
  | y :: ys, S, 0, x, nd, h, e => by
    cases h
    rw [maskS, maskS, e]
    show (if (if y = y then true else S y) = true then 1 else 0) + 2 * maskS ys (fun z => if z = y then true else S z) = _
    rw [if_pos rfl, maskS_off nd]
    simp
    omega
  | y :: ys, S, k + 1, x, nd, h, e => by
    have h' : ys[k]? = some x := h
    have ne : y ≠ x := fun e' => (List.nodup_cons.mp nd).1 (e' ▸ List.mem_of_getElem? h')
    rw [maskS, maskS, maskS_put (List.nodup_cons.mp nd).2 h' e]
    have e2 : putS S x true y = S y := if_neg ne
    rw [e2, Nat.pow_succ]
    omega
theorem putS_putS (S : Str → Bool) (x : Str) (b c : Bool) : putS (putS S x b) x c = putS S x c := by
  funext z
  unfold putS
  split <;> rfl
theorem putS_self {S : Str → Bool} {x : Str} {b : Bool} (h : S x = b) : putS S x b = S := by
  funext z
  unfold putS
  split
  · rename_i e
    rw [e, h]
  · rfl
/-- what is kept without a name -/
theorem maskS_kept {ys : List Str} {S : Str → Bool} {k : Nat} {x : Str} (nd : ys.Nodup) (h : ys[k]? = some x) : maskS ys S - (maskS ys S &&& 2 ^ k) = maskS ys (putS S x false) ∧ (maskS ys S &&& 2 ^ k) ≤ maskS ys S := by
  rw [and_pow, maskS_bit h]
  cases e : S x with
  | false => rw [putS_self e]; simp
  | true =>
    have := maskS_put (S := putS S x false) nd h (if_pos rfl)
    rw [putS_putS, putS_self e] at this
    simp
    omega
end PM
set_option Elab.async false
set_option linter.all false
set_option maxRecDepth 100000
set_option maxHeartbeats 4000000
namespace PM
open PySem PySem.Spec PyProof.Rows L2 ZX ZR
/-- where a name stands -/
def idxS : List Str → Str → Nat
  | [], _ => 0
  | y :: ys, x => if x = y then 0 else idxS ys x + 1
theorem idxS_at : ∀ {ys : List Str} {x : Str}, x ∈ ys → ys[idxS ys x]? = some x
  | y :: ys, x, h => by
    rw [idxS]
    split
    · rename_i e
      rw [e]
      rfl
    · rename_i e
      rw [List.getElem?_cons_succ]
      exact idxS_at ((List.mem_cons.mp h).resolve_left e)
theorem idxS_of : ∀ {ys : List Str} {k : Nat} {x : Str}, ys.Nodup → ys[k]? = some x → idxS ys x = k
  | [], _, _, _, h => by simp at h
  | y :: ys, 0, x, _, h => by
    cases h
    rw [idxS, if_pos rfl]
  | y :: ys, k + 1, x, nd, h => by
    have h' : ys[k]? = some x := h
    have ne : x ≠ y := fun e => by
      subst e
      exact (List.nodup_cons.mp nd).1 (List.mem_of_getElem? h')
    rw [idxS, if_neg ne, idxS_of (List.nodup_cons.mp nd).2 h']
theorem mask_sum : ∀ {ys : List Str} (S : Str → Bool), ys.Nodup → ((ys.filter S).map fun x => 2 ^ idxS ys x).sum = maskS ys S
  | [], _, _ => rfl
  | y :: ys, S, nd => by
    have hd := (List.nodup_cons.mp nd)
    have go : ∀ L : List Str, (∀ x ∈ L, x ∈ ys) → (L.map fun x => 2 ^ idxS (y :: ys) x).sum = 2 * (L.map fun x => 2 ^ idxS ys x).sum := by
      intro L
      induction L with
      | nil => intro _; rfl
      | cons x L ih =>
        intro h
        have ne : x ≠ y := fun e => hd.1 (e ▸ h x List.mem_cons_self)
        rw [List.map_cons, List.map_cons, List.sum_cons, List.sum_cons, ih fun z hz => h z (List.mem_cons_of_mem _ hz), idxS, if_neg ne, Nat.pow_succ]
        omega
    have ih := mask_sum S hd.2
    have hm : ∀ x ∈ ys.filter S, x ∈ ys := fun x hx => (List.mem_filter.mp hx).1
    rw [maskS, List.filter_cons]
    split
    · rw [List.map_cons, List.sum_cons, go _ hm, ih, idxS, if_pos rfl]
    · rw [go _ hm, ih]
      omega
/-- the bits of names -/
def BitK (kvs : List (Key × V)) (ys : List Str) (n : Nat) : Prop := kvs.length ≤ n ∧ ∀ (k : Nat) (x : Str), k < n → ys[k]? = some x → valV kvs (.inr x) = some (.int ((2 ^ k : Nat) : Int))
structure Bits (H : Hp) (d : Addr) (ys : List Str) : Prop where
  ex : ∃ kvs, H d = some (.dK kvs) ∧ BitK kvs ys ys.length
  nd : ys.Nodup
theorem Bits.same {H H' : Hp} {d : Addr} {ys : List Str} (h : Bits H d ys) (s : Same H H') : Bits H' d ys := by
  obtain ⟨kvs, h1, h2⟩ := h.ex
  exact ⟨⟨kvs, s _ _ h1, h2⟩, h.nd⟩
theorem Bits.kp {p : Addr} {H H' : Hp} {d : Addr} {ys : List Str} (h : Bits H d ys) (ne : d ≠ p) (s : Kp p H H') : Bits H' d ys := by
  obtain ⟨kvs, h1, h2⟩ := h.ex
  exact ⟨⟨kvs, s _ _ ne h1, h2⟩, h.nd⟩
theorem Bits.get {H : Hp} {d : Addr} {ys : List Str} (h : Bits H d ys) {x : Str} (hx : x ∈ ys) : DGet H d (.str x) (some (.int ((2 ^ idxS ys x : Nat) : Int))) := by
  obtain ⟨kvs, h1, h2⟩ := h.ex
  have hi := idxS_at hx
  have hlt : idxS ys x < ys.length := (List.getElem?_eq_some_iff.mp hi).1
  have e := h2.2 _ _ hlt hi
  rw [← e]
  exact DGet.k (k := .inr x) h1
theorem bitAnd_nat (a b : Nat) : Builtin.bitAnd (a : Int) (b : Int) = ((a &&& b : Nat) : Int) := rfl
/-- the lot one row on -/
def moveS : Rw → (Str → Bool) → Option (Str → Bool)
  | .note x _ ps, S => some (putS S x (ps.any S))
  | .copy x y, S => some (putS S x (S y))
  | .give x _, S => some (putS S x false)
  | .ask x, S => if S x then none else some S
  | .prt x, S => if S x then none else some S
  | .either _ _, S => some S
  | .again _, S => some S
/-- a lot's number, or -1 -/
def mOf (ys : List Str) : Option (Str → Bool) → Int
  | some S => (maskS ys S : Nat)
  | none => -1
end PM
namespace K24
open PySem PySem.Spec PyProof.Rows L2 ZX PM ZR
abbrev sLBits : Stmt := top 70
abbrev sLLot : Stmt := top 71
def spLBits : Sp := fun vs H Q _ => ∃ (t : Addr) (ys : List Str), vs = [.ref t] ∧ H t = some (.lst (ys.map V.str)) ∧ ys.Nodup ∧ ys.length ≤ 8 ∧ ∀ d H', Same H H' → H d = none → Bits H' d ys → Q (.ref d) H'
def spLLot (K : PySem.W.Frag) : Sp := fun vs H Q _ => ∃ (t : Addr) (ys : List Str) (S : Str → Bool), vs = [.ref t, .int (maskS ys S : Nat)] ∧ H t = some (.lst (ys.map V.str)) ∧ ys.length ≤ 8 ∧ ∀ a H', Same H H' → SqT K H' a ((ys.filter S).map V.str) → Q (.ref a) H'
section
variable {P : Program} {w : World} {K : PySem.W.Frag} {mg : Str → Option Value} {base : Heap}
theorem scBits : FnScope ["_law_names_here", "_law_bits_here", "_law_k"] ["_law_names_here"] (defScope sLBits) := ⟨rfl, rfl, rfl, by decide +kernel, rfl, by decide +kernel, by decide +kernel⟩
theorem ok_lbits {f : Addr} {fd : FuncData} (F : FnP K "_law_bits" sLBits f fd) (T : Bi mg) : FnOk P w K mg base CX0 1 f fd ["_law_names_here"] spLBits := by
  refine F.ok scBits (fun vs H Q E h => ?_) (fun cdv A outer s H vs Q E hr h => ?_)
  · obtain ⟨t, ys, rfl, _⟩ := h
    rfl
  · obtain ⟨t, ys, rfl, ht, nd, l8, k⟩ := h
    have hu := hu_of hr
    refine ⟨_, PSs.nox (pss_cons (ps_set (i := 1) scBits.nd rfl (Or.inl rfl) pe_dnewK)
    (pss_cons (ps_for PassesOwn.never rfl (pi_range1 rfl T.b_range (pa_cons (pe_callB call_len_seq (by rfl) T.b_len (by decide +kernel) (pa_cons (pv 0) pa_nil)) pa_nil)) (pg_name (i := 2) scBits.nd rfl (Or.inl rfl)) (pss_one (ps_dput hu (pv 1) (pe_ix ix_list (pv 0) (pv 2) (fun _ _ => rfl)) (pe_op op_oneShl pe_int (pv 2)) rfl)))
    (pss_one (ps_ret (pv 1))))), ?_⟩
    intro d nd0
    have sd := same_new (o := .dK []) nd0
    refine ⟨_, rfl, t, _, rfl, .inl (SqL.of (sd _ _ ht)), _, rfl, by omega, by rw [List.length_map]; omega, ?_⟩
    refine for_range (fun i σ' H' => ∃ kvs y, σ' = [some (.ref t), some (.ref d), y] ∧ Same H H' ∧ H' d = some (.dK kvs) ∧ BitK kvs ys i) ⟨[], _, rfl, sd, upd_same, Nat.le_refl _, fun _ _ h => absurd h (Nat.not_lt_zero _)⟩ ?_ ?_
    · rintro i σ' H' hi ⟨kvs, y, rfl, sm, hd, hb⟩
      have hil : i < ys.length := by
        rw [List.length_map] at hi
        omega
      have hx : ys[i]? = some ys[i] := List.getElem?_eq_getElem hil
      refine ⟨_, rfl, i, rfl, by rw [Int.zero_add], by omega, _, rfl, _, rfl, _, rfl, t, _, _, V.str ys[i], rfl, rfl, SqL.of (sm _ _ ht), at_of (j := i) (by omega) (by rw [List.getElem?_map, hx]; rfl), d, _, rfl, DPut.k (k := .inr ys[i]) hd (Nat.lt_of_le_of_lt (show kvs.length ≤ 8 by have := hb.1; omega) (by decide)), ?_⟩
      refine ⟨_, _, rfl, sm.put nd0, upd_same, Nat.le_trans (length_putK _ _ _) (Nat.succ_le_succ hb.1), fun k x hk hkx => ?_⟩
      rw [valV_put]
      by_cases e : k = i
      · subst e
        rw [hx] at hkx
        cases hkx
        rw [if_pos rfl, Int.natCast_pow]
        rfl
      · have ne : x ≠ ys[i] := fun ex => by
          have h1 := idxS_of nd hkx
          have h2 := idxS_of nd hx
          rw [ex, h2] at h1
          exact e h1.symm
        rw [if_neg (fun z => ne (Sum.inr.inj z))]
        exact hb.2 k x (by omega) hkx
    · rintro σ' H' ⟨kvs, y, rfl, sm, hd, hb⟩
      rw [List.length_map] at hb
      exact ⟨_, rfl, k d H' sm nd0 ⟨⟨kvs, hd, by simpa using hb⟩, nd⟩⟩
theorem scLot : FnScope ["_law_names_here", "_law_mask", "_law_k"] ["_law_names_here", "_law_mask"] (defScope sLLot) := ⟨rfl, rfl, rfl, by decide +kernel, rfl, by decide +kernel, by decide +kernel⟩
theorem ok_llot {f : Addr} {fd : FuncData} (F : FnP K "_law_lot" sLLot f fd) (T : Bi mg) : FnOk P w K mg base CX0 1 f fd ["_law_names_here", "_law_mask"] (spLLot K) := by
  refine F.ok scLot (fun vs H Q E h => ?_) (fun cdv A outer s H vs Q E hr h => ?_)
  · obtain ⟨t, ys, S, rfl, _⟩ := h
    rfl
  · obtain ⟨t, ys, S, rfl, ht, l8, k⟩ := h
    refine ⟨_, PSs.nox (pss_one (ps_ret (pe_callTy call_tuple_of (by rfl) T.b_tuple (by decide +kernel) (pa_cons (pe_lcS (own := [("_law_k", 2)]) (g := gName 2) (te := tOp (rIxL K) (tVar 0) (tVar 2)) (by rfl) scLot.nd (pi_range1 rfl T.b_range (pa_cons (pe_callB call_len_seq (by rfl) T.b_len (by decide +kernel) (pa_cons (pv 0) pa_nil)) pa_nil)) (blkOk_by (N := ["_law_names_here", "_law_mask", "_law_k"]) (sc := defScope sLLot) (by decide +kernel)) (fun _ _ _ _ _ => (pg_name (i := 2) scLot.nd rfl (Or.inl rfl))) (fun _ _ _ _ _ => (pts_one (pt_cmpR op_eq (pe_op op_and (pe_op op_shrN (pv 1) (pv 2)) pe_int) pe_int (nomark _)))) (fun _ _ _ _ _ => (pe_ix ix_list (pv 0) (pv 2) (fun _ _ => rfl)))) pa_nil)))), ?_⟩
    refine lc_into ?_
    refine ⟨_, rfl, t, _, rfl, .inl (SqL.of ht), _, rfl, by omega, by rw [List.length_map]; omega, ?_⟩
    refine lc_overF (as := ys) (Rel := fun _ c y => y = .str c) S it_range ?_ (fun _ _ _ _ _ h => h) ?_ (fun _ _ _ => trivial) ?_ ?_
    · rw [List.length_map, List.length_range, List.length_map]
      omega
    · rw [List.length_map, List.length_range, List.length_map]
      exact Nat.lt_of_le_of_lt (show _ ≤ 8 by omega) (by decide)
    · intro j z x hz hx H3 s3 pt3 R N kR kN
      have hjl : j < ys.length := (List.getElem?_eq_some_iff.mp hx).1
      have ez : z = V.int (0 + (j : Int)) := by
        rw [List.getElem?_map] at hz
        rw [List.getElem?_range (by rw [List.length_map]; omega)] at hz
        cases hz
        rfl
      subst ez
      have et : ((maskS ys S : Nat) : Int) / 2 ^ j = ((maskS ys S / 2 ^ j : Nat) : Int) := by
        rw [Int.natCast_ediv, Int.natCast_pow]
        rfl
      refine ⟨rfl, _, rfl, _, rfl, _, j, rfl, by rw [Int.zero_add], ?_⟩
      rw [et]
      refine ⟨_, 1, rfl, rfl, rfl, _, rfl, ?_⟩
      have eb : decide (V.int (Builtin.bitAnd ((maskS ys S / 2 ^ j : Nat) : Int) 1) = V.int 1) = S x := by
        have h1 := maskS_bit (S := S) hx
        rw [Nat.testBit_eq_decide_div_mod_eq] at h1
        rw [← h1, show Builtin.bitAnd ((maskS ys S / 2 ^ j : Nat) : Int) 1 = ((maskS ys S / 2 ^ j &&& 1 : Nat) : Int) from rfl, Nat.and_one_is_mod]
        congr 1
        apply propext
        constructor
        · intro h
          have := V.int.inj h
          omega
        · intro h
          rw [h]
          rfl
      rw [eb]
      refine ite2 (fun e => ?_) (fun e => ?_)
      · exact ⟨_, rfl, _, rfl, t, _, _, _, rfl, rfl, SqL.of (s3 _ _ ht), at_of (j := j) (by omega) (by rw [List.getElem?_map, hx]; rfl), kR e _ _ (fun _ _ h => h) rfl⟩
      · exact kN (Bool.eq_false_iff.mpr e) _ fun _ _ h => h
    · intro D zs H3 s3 pt3 nD hD all
      have e := All2.map all
      subst e
      refine ⟨D, _, rfl, .inl ⟨SqL.of hD, fun q nq => ?_⟩⟩
      exact k q _ (s3.trans (same_new nq)) (.inl (.inl upd_same))
end
end K24
set_option Elab.async false
set_option linter.all false
set_option maxRecDepth 100000
set_option maxHeartbeats 4000000
namespace PM
open PySem PySem.Spec PyProof.Rows L2 ZX ZR
/-- the lot along these places -/
def alongS (rows : List Rw) : List Nat → Option (Str → Bool) → Option (Str → Bool)
  | [], o => o
  | p :: ps, o => alongS rows ps (o.bind fun S => (rows[p]?).bind fun r => moveS r S)
theorem alongS_snoc (rows : List Rw) : ∀ (ps : List Nat) (p : Nat) (o : Option (Str → Bool)), alongS rows (ps ++ [p]) o = (alongS rows ps o).bind fun S => (rows[p]?).bind fun r => moveS r S
  | [], _, _ => rfl
  | q :: ps, p, o => by
    rw [List.cons_append, alongS, alongS, alongS_snoc rows ps p]
theorem mOf_nn {ys : List Str} {o : Option (Str → Bool)} : 0 ≤ mOf ys o ↔ o.isSome = true := by
  cases o with
  | none => simp [mOf]
  | some S => simp [mOf]
theorem and_pos {ys : List Str} {S : Str → Bool} {x : Str} (nd : ys.Nodup) (hx : x ∈ ys) : decide (((maskS ys S &&& 2 ^ idxS ys x : Nat) : Int) > 0) = S x := by
  rw [and_pow, maskS_bit (idxS_at hx)]
  have := Nat.two_pow_pos (idxS ys x)
  cases S x with
  | true => exact decide_eq_true (Int.ofNat_lt.mpr (by rw [if_pos rfl]; exact this))
  | false => exact decide_eq_false (by simp)
end PM
namespace K24
open PySem PySem.Spec PyProof.Rows L2 ZX PM ZR
abbrev sLMoved : Stmt := top 72
abbrev sLAlong : Stmt := top 73
def spLMoved (K : PySem.W.Frag) : Sp := fun vs H Q _ => ∃ (v : V) (r : Rw) (d : Addr) (ys : List Str) (S : Str → Bool), vs = [v, .int (maskS ys S : Nat), .ref d] ∧ RV K H v r ∧ Bits H d ys ∧ (∀ x ∈ namesR r, x ∈ ys) ∧ (namesR r).length ≤ 4 ∧ ∀ H', Same H H' → Q (.int (mOf ys (moveS r S))) H'
section
variable {P : Program} {w : World} {K : PySem.W.Frag} {mg : Str → Option Value} {base : Heap}
theorem scMoved : FnScope ["_law_row", "_law_mask", "_law_bits_here", "_law_own", "_law_kept", "_law_name"] ["_law_row", "_law_mask", "_law_bits_here"] (defScope sLMoved) := ⟨rfl, rfl, rfl, by decide +kernel, rfl, by decide +kernel, by decide +kernel⟩
theorem ok_lmoved {f : Addr} {fd : FuncData} (F : FnP K "_law_moved" sLMoved f fd) (T : Bi mg) : FnOk P w K mg base CX0 1 f fd ["_law_row", "_law_mask", "_law_bits_here"] (spLMoved K) := by
  refine F.ok scMoved (fun vs H Q E h => ?_) (fun cdv A outer s H vs Q E hr h => ?_)
  · obtain ⟨v, r, d, ys, S, rfl, _⟩ := h
    rfl
  · obtain ⟨v, r, d, ys, S, rfl, tr, hb, hn, hl4, k⟩ := h
    have hu := hu_of hr
    have nd := hb.nd
    refine ⟨_, PSs.nox (pss_cons (ps_if (pt_cmpR op_in_seq (pe_ix ix_tup (pv 0) pe_int (fun _ _ => rfl)) (pe_tup (pa_cons pe_str (pa_cons pe_str pa_nil))) (by with_unfolding_all rfl)) (pss_one (ps_ret (pv 1))) pss_nil)
    (pss_cons (ps_set (i := 3) scMoved.nd rfl (Or.inl rfl) (pe_dget hu (pv 2) (pe_ix ix_tup (pv 0) pe_int (fun _ _ => rfl)) (fun _ _ => rfl)))
    (pss_cons (ps_set (i := 4) scMoved.nd rfl (Or.inl rfl) (pe_op op_sub (pv 1) (pe_op op_and (pv 1) (pv 3))))
    (pss_cons (ps_if (pt_cmpR op_eq (pe_ix ix_tup (pv 0) pe_int (fun _ _ => rfl)) pe_str (nomark _)) (pss_one (ps_ret (pe_ifExp (pt_cmpR op_gt (pe_callB call_len_seq (by rfl) T.b_len (by decide +kernel) (pa_cons (pe_lcS (own := [("_law_name", 5)]) (g := gName 5) (by rfl) scMoved.nd (pi_tup (pe_ix ix_tup (pv 0) pe_int (fun _ _ => rfl))) (blkOk_by (N := ["_law_row", "_law_mask", "_law_bits_here", "_law_own", "_law_kept", "_law_name"]) (sc := defScope sLMoved) (by decide +kernel)) (fun _ _ _ _ _ => (pg_name (i := 5) scMoved.nd rfl (Or.inl rfl))) (fun _ _ _ _ _ => (pts_one (pt_cmpR op_gt (pe_op op_and (pv 1) (pe_dget hu (pv 2) (pv 5) (fun _ _ => rfl))) pe_int (nomark _)))) (fun _ _ _ _ _ => (pv 5))) pa_nil)) pe_int (nomark _)) (pe_op op_add (pv 4) (pv 3)) (pv 4)))) pss_nil)
    (pss_cons (ps_if (pt_cmpR op_eq (pe_ix ix_tup (pv 0) pe_int (fun _ _ => rfl)) pe_str (nomark _)) (pss_one (ps_ret (pe_ifExp (pt_cmpR op_gt (pe_op op_and (pv 1) (pe_dget hu (pv 2) (pe_ix ix_tup (pv 0) pe_int (fun _ _ => rfl)) (fun _ _ => rfl))) pe_int (nomark _)) (pe_op op_add (pv 4) (pv 3)) (pv 4)))) pss_nil)
    (pss_cons (ps_if (pt_cmpR op_eq (pe_ix ix_tup (pv 0) pe_int (fun _ _ => rfl)) pe_str (nomark _)) (pss_one (ps_ret (pv 4))) pss_nil)
    (pss_one (ps_ret (pe_ifExp (pt_cmpR op_gt (pe_op op_and (pv 1) (pv 3)) pe_int (nomark _)) (pe_un un_neg pe_int) (pv 1)))))))))), ?_⟩
    obtain ⟨ra, tl, rfl, hrS, hrt⟩ := tr.rowI
    refine ⟨_, rfl, _, _, _, _, rfl, rfl, hrS, at0, by decide, fun t nt => ?_⟩
    have st := same_new (o := .tup [V.str "either", V.str "again"]) nt
    refine ⟨_, _, rfl, .inr (.inl (.inl upd_same)), rfl, rfl, _, rfl, ?_⟩
    show if inV (V.str (wordR r)) [V.str "either", V.str "again"] = true then _ else _
    have hS1 := st.pt.sq hrS
    have hb1 := hb.same st
    -- the own bit, what is kept
    have kept : ∀ x ∈ ys, ((maskS ys S : Nat) : Int) - Builtin.bitAnd ((maskS ys S : Nat) : Int) ((2 ^ idxS ys x : Nat) : Int) = ((maskS ys (putS S x false) : Nat) : Int) := fun x hx => by
      have := maskS_kept (S := S) nd (idxS_at hx)
      rw [bitAnd_nat]
      omega
    have own : ∀ x ∈ ys, ((maskS ys (putS S x false) : Nat) : Int) + ((2 ^ idxS ys x : Nat) : Int) = ((maskS ys (putS S x true) : Nat) : Int) := fun x hx => by
      have := maskS_put (S := putS S x false) nd (idxS_at hx) (if_pos rfl)
      rw [putS_putS] at this
      omega
    have pick : ∀ (x : Str), x ∈ ys → ∀ b : Bool, (if b = true then V.int (maskS ys (putS S x true) : Nat) else V.int (maskS ys (putS S x false) : Nat)) = V.int (mOf ys (some (putS S x b))) := fun x _ b => by
      cases b <;> rfl
    cases r with
    | either b1 b2 => exact ifB (by rw [word_in]; rfl) ⟨_, rfl, k _ st⟩
    | again b1 => exact ifB (by rw [word_in]; rfl) ⟨_, rfl, k _ st⟩
    | note x o ps =>
      have hx : x ∈ ys := hn x List.mem_cons_self
      obtain ⟨v1, v2, v3, rfl, t1, t2, t3⟩ := hrt.three
      cases t1.strI
      cases t2.strI
      obtain ⟨a3, xs3, rfl, hS3, ht3⟩ := t3.tupI
      have e3 := Tvs.strs ht3
      subst e3
      refine ifBF (by rw [word_in]; rfl) ⟨_, rfl, _, rfl, _, _, _, _, rfl, rfl, hS1, rfl, d, _, rfl, hb1.get hx, ?_⟩
      refine ⟨_, rfl, _, rfl, _, rfl, _, _, rfl, rfl, _, _, rfl, rfl, ?_⟩
      simp only [kept x hx]
      refine ⟨_, rfl, _, _, _, _, rfl, rfl, hS1, at0, rfl, _, rfl, ifD rfl ?_⟩
      have hpl : ps.length ≤ 3 := by
        have : ps.length + 1 ≤ 4 := hl4
        omega
      have hS31 := st.pt.sq hS3
      refine lc_into ?_
      refine ⟨_, rfl, _, _, _, _, rfl, rfl, hS1, rfl, a3, rfl, ⟨_, hS31⟩, ?_⟩
      refine lc_overF (as := ps) (Rel := fun _ c y => y = .str c) S it_tup ?_ (fun _ _ _ _ _ h => h) ?_ (fun H' _ pt => pt.sq hS31) ?_ ?_
      · rw [List.length_map]
      · rw [List.length_map]
        exact Nat.lt_of_le_of_lt hpl (by decide)
      · intro j z y hz hy H3 s3 pt3 R N kR kN
        rw [List.getElem?_map, hy] at hz
        cases hz
        have hym : y ∈ ys := hn y (List.mem_cons_of_mem _ (List.mem_of_getElem? hy))
        refine ⟨rfl, _, rfl, _, rfl, _, rfl, d, _, rfl, (hb1.same s3).get hym, _, _, rfl, rfl, _, _, rfl, rfl, _, rfl, ?_⟩
        rw [bitAnd_nat, and_pos nd hym]
        refine ite2 (fun e => ⟨_, rfl, kR e _ _ (fun _ _ h => h) rfl⟩) (fun e => kN (Bool.eq_false_iff.mpr e) _ fun _ _ h => h)
      · intro D zs H3 s3 pt3 nD hD all
        refine ⟨D, _, rfl, .inl (SqL.of hD), _, _, rfl, rfl, _, rfl, ?_⟩
        have e : decide (((zs.length : Nat) : Int) > 0) = ps.any S := by
          rw [← all.len]
          cases e : ps.any S with
          | true =>
            obtain ⟨y, hy, hy2⟩ := List.any_eq_true.mp e
            have := List.length_pos_of_mem (List.mem_filter.mpr ⟨hy, hy2⟩)
            exact decide_eq_true (by omega)
          | false =>
            have : ps.filter S = [] := List.filter_eq_nil_iff.mpr fun y hy h => by
              rw [List.any_eq_true.mpr ⟨y, hy, h⟩] at e
              cases e
            rw [this]
            rfl
        rw [e]
        refine rd_ifE (x := V.int (maskS ys (putS S x true) : Nat)) (y := V.int (maskS ys (putS S x false) : Nat)) (fun R h => ⟨_, rfl, _, rfl, _, _, rfl, rfl, by simp only [own x hx]; exact h⟩) (fun R h => ⟨_, rfl, h⟩) ?_
        rw [pick x hx]
        exact k _ (st.trans s3)
    | copy x y =>
      have hx : x ∈ ys := hn x List.mem_cons_self
      have hy : y ∈ ys := hn y (List.mem_cons_of_mem _ List.mem_cons_self)
      obtain ⟨v1, v2, rfl, t1, t2⟩ := hrt.two
      cases t1.strI
      cases t2.strI
      refine ifBF (by rw [word_in]; rfl) ⟨_, rfl, _, rfl, _, _, _, _, rfl, rfl, hS1, rfl, d, _, rfl, hb1.get hx, ?_⟩
      refine ⟨_, rfl, _, rfl, _, rfl, _, _, rfl, rfl, _, _, rfl, rfl, ?_⟩
      simp only [kept x hx]
      refine ⟨_, rfl, _, _, _, _, rfl, rfl, hS1, at0, rfl, _, rfl, ifDF (neS (a := "copy") (b := "note") (by decide +kernel)) ?_⟩
      refine ⟨_, rfl, _, _, _, _, rfl, rfl, hS1, at0, rfl, _, rfl, ifD rfl ?_⟩
      refine ⟨_, rfl, _, rfl, _, rfl, _, _, _, _, rfl, rfl, hS1, rfl, d, _, rfl, hb1.get hy, _, _, rfl, rfl, _, _, rfl, rfl, _, rfl, ?_⟩
      rw [bitAnd_nat, and_pos nd hy]
      refine rd_ifE (x := V.int (maskS ys (putS S x true) : Nat)) (y := V.int (maskS ys (putS S x false) : Nat)) (fun R h => ⟨_, rfl, _, rfl, _, _, rfl, rfl, by simp only [own x hx]; exact h⟩) (fun R h => ⟨_, rfl, h⟩) ?_
      rw [pick x hx]
      exact k _ st
    | give x i =>
      have hx : x ∈ ys := hn x List.mem_cons_self
      obtain ⟨v1, v2, rfl, t1, t2⟩ := hrt.two
      cases t1.strI
      refine ifBF (by rw [word_in]; rfl) ⟨_, rfl, _, rfl, _, _, _, _, rfl, rfl, hS1, rfl, d, _, rfl, hb1.get hx, ?_⟩
      refine ⟨_, rfl, _, rfl, _, rfl, _, _, rfl, rfl, _, _, rfl, rfl, ?_⟩
      simp only [kept x hx]
      refine ⟨_, rfl, _, _, _, _, rfl, rfl, hS1, at0, rfl, _, rfl, ifDF (neS (a := "give") (b := "note") (by decide +kernel)) ?_⟩
      refine ⟨_, rfl, _, _, _, _, rfl, rfl, hS1, at0, rfl, _, rfl, ifDF (neS (a := "give") (b := "copy") (by decide +kernel)) ?_⟩
      refine ⟨_, rfl, _, _, _, _, rfl, rfl, hS1, at0, rfl, _, rfl, ifD rfl ?_⟩
      exact ⟨_, rfl, k _ st⟩
    | ask x =>
      have hx : x ∈ ys := hn x List.mem_cons_self
      obtain ⟨v1, rfl, t1⟩ := hrt.one
      cases t1.strI
      refine ifBF (by rw [word_in]; rfl) ⟨_, rfl, _, rfl, _, _, _, _, rfl, rfl, hS1, rfl, d, _, rfl, hb1.get hx, ?_⟩
      refine ⟨_, rfl, _, rfl, _, rfl, _, _, rfl, rfl, _, _, rfl, rfl, ?_⟩
      refine ⟨_, rfl, _, _, _, _, rfl, rfl, hS1, at0, rfl, _, rfl, ifDF (neS (a := "ask") (b := "note") (by decide +kernel)) ?_⟩
      refine ⟨_, rfl, _, _, _, _, rfl, rfl, hS1, at0, rfl, _, rfl, ifDF (neS (a := "ask") (b := "copy") (by decide +kernel)) ?_⟩
      refine ⟨_, rfl, _, _, _, _, rfl, rfl, hS1, at0, rfl, _, rfl, ifDF (neS (a := "ask") (b := "give") (by decide +kernel)) ?_⟩
      refine ⟨_, rfl, _, rfl, _, _, rfl, rfl, _, _, rfl, rfl, _, rfl, ?_⟩
      rw [bitAnd_nat, and_pos nd hx]
      refine rd_ifE (x := V.int (-1)) (y := V.int (maskS ys S : Nat)) (fun R h => ⟨_, rfl, h⟩) (fun R h => ⟨_, rfl, h⟩) ?_
      have e : (if S x = true then V.int (-1) else V.int (maskS ys S : Nat)) = V.int (mOf ys (moveS (.ask x) S)) := by
        show _ = V.int (mOf ys (if S x = true then none else some S))
        cases S x <;> rfl
      rw [e]
      exact k _ st
    | prt x =>
      have hx : x ∈ ys := hn x List.mem_cons_self
      obtain ⟨v1, rfl, t1⟩ := hrt.one
      cases t1.strI
      refine ifBF (by rw [word_in]; rfl) ⟨_, rfl, _, rfl, _, _, _, _, rfl, rfl, hS1, rfl, d, _, rfl, hb1.get hx, ?_⟩
      refine ⟨_, rfl, _, rfl, _, rfl, _, _, rfl, rfl, _, _, rfl, rfl, ?_⟩
      refine ⟨_, rfl, _, _, _, _, rfl, rfl, hS1, at0, rfl, _, rfl, ifDF (neS (a := "print") (b := "note") (by decide +kernel)) ?_⟩
      refine ⟨_, rfl, _, _, _, _, rfl, rfl, hS1, at0, rfl, _, rfl, ifDF (neS (a := "print") (b := "copy") (by decide +kernel)) ?_⟩
      refine ⟨_, rfl, _, _, _, _, rfl, rfl, hS1, at0, rfl, _, rfl, ifDF (neS (a := "print") (b := "give") (by decide +kernel)) ?_⟩
      refine ⟨_, rfl, _, rfl, _, _, rfl, rfl, _, _, rfl, rfl, _, rfl, ?_⟩
      rw [bitAnd_nat, and_pos nd hx]
      refine rd_ifE (x := V.int (-1)) (y := V.int (maskS ys S : Nat)) (fun R h => ⟨_, rfl, h⟩) (fun R h => ⟨_, rfl, h⟩) ?_
      have e : (if S x = true then V.int (-1) else V.int (maskS ys S : Nat)) = V.int (mOf ys (moveS (.prt x) S)) := by
        show _ = V.int (mOf ys (if S x = true then none else some S))
        cases S x <;> rfl
      rw [e]
      exact k _ st
/-- numbers of places -/
def plV (ps : List Nat) : List V := ps.map fun (n : Nat) => V.int (n : Int)
theorem cut_init {xs : List V} {x : V} : cutV (xs ++ [x]) none (some (-1)) = xs := by
  unfold cutV
  have h1 : HT.sIx (xs ++ [x]).length 0 none = 0 := rfl
  have h2 : HT.sIx (xs ++ [x]).length (xs ++ [x]).length (some (-1)) = xs.length := by
    simp [HT.sIx]
    omega
  rw [h1, h2, List.drop_zero, Nat.sub_zero, List.take_left]
theorem plV_app (ps qs : List Nat) : plV (ps ++ qs) = plV ps ++ plV qs := List.map_append
/-- .. with a table and the bits -/
def spLAlong (K : PySem.W.Frag) : Sp := fun vs H Q _ => ∃ (l d a : Addr) (us : List V) (b : List Rw) (ys : List Str) (ps : List Nat) (q : Nat) (o : Option (Str → Bool)), vs = [.ref l, .ref d, .ref a, .int (mOf ys o)] ∧ H l = some (.lst us) ∧ Tvs K H us ((tabB b).map dE) ∧ Bits H d ys ∧ SqT K H a (plV (ps ++ [q])) ∧ (∀ p ∈ ps, p < (rowsB b).length) ∧ (∀ x ∈ (rowsB b).flatMap namesR, x ∈ ys) ∧ Good b ∧ ∀ H', Same H H' → Q (.int (mOf ys (alongS (rowsB b) ps o))) H'
/-- the row of a place in a table -/
theorem tab_get {K : PySem.W.Frag} {H : Hp} {us : List V} {b : List Rw} (hu : Tvs K H us ((tabB b).map dE)) {p : Nat} {r : Rw} (hr : (rowsB b)[p]? = some r) : ∃ a x y ls, us[p]? = some (.ref a) ∧ SqT K H a [x, y] ∧ RV K H x r ∧ Tv K H y (encL ls) ∧ (leadsB b 0 (rowsB b).length)[p]? = some ls := by
  have hl : p < (rowsB b).length := (List.getElem?_eq_some_iff.mp hr).1
  have hl2 : p < (leadsB b 0 (rowsB b).length).length := by rw [leadsB_len]; exact hl
  have ht : (tabB b)[p]? = some (r, (leadsB b 0 (rowsB b).length)[p]) := by
    unfold tabB entsB
    rw [List.getElem?_zip_eq_some]
    exact ⟨hr, List.getElem?_eq_getElem hl2⟩
  obtain ⟨v, hv, tv⟩ := Tvs.get (i := p) (d := dE (r, (leadsB b 0 (rowsB b).length)[p])) hu (by rw [List.getElem?_map, ht]; rfl)
  obtain ⟨a, x, y, rfl, hS, h1, h2⟩ := tv.ent
  exact ⟨a, x, y, _, hv, hS, h1, h2, List.getElem?_eq_getElem hl2⟩
theorem names_mem {b : List Rw} {ys : List Str} (h : ∀ x ∈ (rowsB b).flatMap namesR, x ∈ ys) {r : Rw} (hr : r ∈ rowsB b) : ∀ x ∈ namesR r, x ∈ ys := fun x hx => h x (List.mem_flatMap.mpr ⟨r, hr, hx⟩)
theorem scAlong : FnScope ["_law_table_here", "_law_bits_here", "_law_way", "_law_mask", "_law_place"] ["_law_table_here", "_law_bits_here", "_law_way", "_law_mask"] (defScope sLAlong) := ⟨rfl, rfl, rfl, by decide +kernel, rfl, by decide +kernel, by decide +kernel⟩
theorem ok_lalong {f : Addr} {fd : FuncData} (F : FnP K "_law_along" sLAlong f fd) (T : Bi mg) (C__law_moved : Cal P w K mg base "_law_moved" 1 ["_law_row", "_law_mask", "_law_bits_here"] (spLMoved K)) : FnOk P w K mg base CX0 2 f fd ["_law_table_here", "_law_bits_here", "_law_way", "_law_mask"] (spLAlong K) := by
  refine F.ok scAlong (fun vs H Q E h => ?_) (fun cdv A outer s H vs Q E hr h => ?_)
  · obtain ⟨l, d, a, us, b, ys, ps, q, o, rfl, _⟩ := h
    rfl
  · obtain ⟨l, d, a, us, b, ys, ps, q, o, rfl, hl, hu, hb, hS, hps, hn, G, k⟩ := h
    have hr__law_moved := hr
    have hn4 := ok_names_B G.ok
    refine ⟨_, PSs.nox (pss_cons (ps_for PassesOwn.never rfl (pi_tup (pe_slice sl_tupZ (pv 2) po_none (po_some (pe_un un_neg pe_int)))) (pg_name (i := 4) scAlong.nd rfl (Or.inl rfl)) (pss_one (ps_if (pt_cmpR op_ge (pv 3) pe_int (nomark _)) (pss_one (ps_set (i := 3) scAlong.nd rfl (Or.inl rfl) (pcal C__law_moved hr__law_moved rfl (pa_cons (pe_ix ix_tup (pe_ix ix_list (pv 0) (pv 4) (fun _ _ => rfl)) pe_int (fun _ _ => rfl)) (pa_cons (pv 3) (pa_cons (pv 1) pa_nil)))))) pss_nil)))
    (pss_one (ps_ret (pv 3)))), ?_⟩
    have ecut : cutV (plV (ps ++ [q])) none (some (-1)) = plV ps := by
      rw [plV_app]
      exact cut_init
    refine ⟨_, rfl, _, rfl, _, rfl, a, _, rfl, hS, fun c H1 s1 hc => ?_⟩
    rw [ecut] at hc
    refine ⟨c, rfl, ⟨_, hc⟩, ?_⟩
    refine for_tup (xs := plV ps) (fun i σ' H' => ∃ y, σ' = [some (.ref l), some (.ref d), some (.ref a), some (.int (mOf ys (alongS (rowsB b) (ps.take i) o))), y] ∧ Same H H' ∧ SqT K H' c (plV ps)) ⟨_, rfl, s1, hc⟩ ?_ ?_ ?_
    · rintro i σ' H' _ ⟨y, rfl, sm, hc'⟩
      exact hc'
    · rintro i x σ' H' hx ⟨y, rfl, sm, hc'⟩
      obtain ⟨p, hp, rfl⟩ : ∃ p, ps[i]? = some p ∧ x = V.int (p : Nat) := by
        unfold plV at hx
        rw [List.getElem?_map] at hx
        cases e : ps[i]? with
        | none => rw [e] at hx; cases hx
        | some p => rw [e] at hx; exact ⟨p, rfl, (Option.some.inj hx).symm⟩
      have hpm := hps p (List.mem_of_getElem? hp)
      have hr0 : (rowsB b)[p]? = some (rowsB b)[p] := List.getElem?_eq_getElem hpm
      have etk : ps.take (i + 1) = ps.take i ++ [p] := by
        rw [List.take_succ, hp]
        rfl
      obtain ⟨ea, ex, ey, ls, hea, hES, hEr, _⟩ := tab_get hu hr0
      refine ⟨_, rfl, _, _, rfl, rfl, _, rfl, ?_⟩
      rw [etk, alongS_snoc, hr0]
      cases e : alongS (rowsB b) (ps.take i) o with
      | none => exact ifDF (show ¬ (-1 : Int) ≥ 0 by decide) ⟨_, rfl, sm, hc'⟩
      | some S =>
        refine ifD (by show ((maskS ys S : Nat) : Int) ≥ 0; omega) ?_
        have hrm : (rowsB b)[p] ∈ rowsB b := List.getElem_mem hpm
        refine ⟨_, rfl, _, rfl, l, _, _, _, rfl, rfl, SqL.of (sm _ _ hl), at_of (j := p) rfl hea, ea, _, _, _, rfl, rfl, sm.pt.sq hES, rfl, _, rfl, _, rfl, ex, (rowsB b)[p], d, ys, S, rfl, hEr.pt sm.pt, hb.same sm, names_mem hn hrm, hn4 _ hrm, fun H4 s4 => ?_⟩
        exact ⟨_, rfl, sm.trans s4, s4.pt.sq hc'⟩
    · rintro σ' H' ⟨y, rfl, sm, _⟩
      have e : (plV ps).length = ps.length := List.length_map ..
      rw [e, List.take_length]
      exact ⟨_, rfl, k H' sm⟩
end
end K24
set_option Elab.async false
set_option linter.all false
set_option maxRecDepth 100000
set_option maxHeartbeats 4000000
namespace PM
open PySem PySem.Spec PyProof.Rows L2 ZX ZR
theorem _root_.L2.TyX.same {K : PySem.W.Frag} {H H' : Hp} {v : V} {t : Value} (s : Same H H') (h : TyX K H v t) : TyX K H' v t := by
  cases h with
  | base h =>
    cases h with
    | non => exact .base .non
    | bl x => exact .base (.bl x)
    | int i => exact .base (.int i)
    | str x => exact .base (.str x)
    | flt x => exact .base (.flt x)
    | lst e => exact .base (.lst (s _ _ e))
    | frz e => exact .base (.frz (s _ _ e))
    | tup e => exact .base (.tup (s _ _ e))
    | dK e => exact .base (.dK (s _ _ e))
    | dT e => exact .base (.dT (s _ _ e))
    | ins e cl ha hn ht hm => exact .base (.ins (s _ _ e) cl ha hn ht hm)
  | byt b => exact .byt b
  | set e => exact .set (s _ _ e)
  | kList e c => exact .kList e c
  | kTuple e c => exact .kTuple e c
  | kDict e c => exact .kDict e c
  | fTuple e => exact .fTuple (s _ _ e)
  | fDict e => exact .fDict (s _ _ e)
theorem Tvs.ints {K : PySem.W.Frag} {H : Hp} : ∀ {vs : List V} {l : List Nat}, Tvs K H vs (l.map fun (n : Nat) => PyData.int (n : Int)) → vs = l.map fun (n : Nat) => V.int (n : Int)
  | _, [], .nil => rfl
  | _, _ :: _, .cons h t => by
    cases h
    rw [List.map_cons, Tvs.ints t]
theorem flat_ints (l : List Nat) : (l.map fun (n : Nat) => V.int (n : Int)).all flatV = true := by
  induction l with
  | nil => rfl
  | cons n l ih => exact ih
theorem inV_ints (m : Nat) (l : List Nat) : inV (.int (m : Int)) (l.map fun (n : Nat) => V.int (n : Int)) = decide (m ∈ l) := by
  induction l with
  | nil => rfl
  | cons n l ih =>
    show ((n : Int) == (m : Int) || inV (.int (m : Int)) (l.map fun (n : Nat) => V.int (n : Int))) = _
    rw [ih]
    by_cases e : n = m
    · subst e
      simp
    · have e1 : ((n : Int) == (m : Int)) = false := by
        rw [beq_eq_false_iff_ne]
        omega
      have e2 : ¬ m = n := fun z => e z.symm
      rw [e1, Bool.false_or]
      simp [e2]
/-- judging ways -/
def inRg (n : Nat) : Option Int → Bool
  | some i => decide (0 ≤ i) && decide (i < n)
  | none => false
def natOf : Option Int → Nat
  | some i => i.toNat
  | none => 0
def stepB (ls : List (List Nat)) (ns : List Nat) (k : Nat) : Bool := decide (ns.getD (k + 1) 0 ∈ ls.getD (ns.getD k 0) [])
def judge (ls : List (List Nat)) (cs : List (Option Int)) : Bool := !cs.isEmpty && ((cs.map (inRg ls.length)).all id && ((List.range (cs.length - 1)).map (stepB ls (cs.map natOf))).all id)
theorem inR_all {n : Nat} {cs : List (Option Int)} (h : (cs.map (inRg n)).all id = true) {k : Nat} {c : Option Int} (hc : cs[k]? = some c) : ∃ m : Nat, c = some (m : Int) ∧ m < n ∧ (cs.map natOf).getD k 0 = m := by
  have h1 := List.all_eq_true.mp h (inRg n c) (List.mem_map.mpr ⟨c, List.mem_of_getElem? hc, rfl⟩)
  cases c with
  | none => cases h1
  | some i =>
    obtain ⟨h2, h3⟩ := Bool.and_eq_true_iff.mp (show (decide (0 ≤ i) && decide (i < n)) = true from h1)
    have h4 := of_decide_eq_true h2
    have h5 := of_decide_eq_true h3
    refine ⟨i.toNat, by rw [Int.toNat_of_nonneg h4], by omega, ?_⟩
    rw [List.getD_eq_getElem?_getD, List.getElem?_map, hc]
    rfl
end PM
namespace K24
open PySem PySem.Spec PyProof.Rows L2 ZX PM ZR
theorem NumV.same {K : PySem.W.Frag} {H H' : Hp} {v : V} {c : Bool} (s : Same H H') (h : NumV K H v c) : NumV K H' v c := by
  cases h with
  | int i => exact .int i
  | bl b => exact .bl b
  | oth h e => exact .oth (h.same s) e
/-- an item: an integer or none -/
inductive Itm (K : PySem.W.Frag) (H : Hp) : V → Option Int → Prop
  | int (i : Int) : Itm K H (.int i) (some i)
  | oth {v : V} (h : NumV K H v false) : Itm K H v none
theorem Itm.same {K : PySem.W.Frag} {H H' : Hp} {v : V} {c : Option Int} (s : Same H H') (h : Itm K H v c) : Itm K H' v c := by
  cases h with
  | int i => exact .int i
  | oth h => exact .oth (NumV.same s h)
theorem All2.get {α β : Type} {R : α → β → Prop} : ∀ {as : List α} {bs : List β} {i : Nat} {a : α}, All2 R as bs → as[i]? = some a → ∃ b, bs[i]? = some b ∧ R a b
  | _, _, i, _, .nil, h => by simp at h
  | _, _, 0, _, .cons r t, h => by
    cases h
    exact ⟨_, rfl, r⟩
  | _, _, i + 1, _, .cons r t, h => All2.get (i := i) t h
end K24
set_option Elab.async false
set_option linter.all false
set_option maxRecDepth 100000
set_option maxHeartbeats 4000000
namespace K24
open PySem PySem.Spec PyProof.Rows L2 ZX PM ZR
abbrev sIsWay : Stmt := top 41
def spIsWay (K : PySem.W.Frag) (C : Addr) : Sp := fun vs H Q _ => ∃ (x : Addr) (v : V) (b : List Rw), vs = [.ref x, v] ∧ PrAt K C H x b ∧
  ((∃ t, TyX K H v t ∧ PySem.W.kitOne K t (.type "tuple") = some false ∧ ∀ H', Same H H' → Q (.bl false) H') ∨
   (∃ (a : Addr) (xs : List V) (cs : List (Option Int)), v = .ref a ∧ SqT K H a xs ∧ All2 (Itm K H) xs cs ∧ xs.length ≤ 100000 ∧ ∀ H', Same H H' → Q (.bl (judge (leadsP b) cs)) H'))
/-- the words of the two comprehensions -/
def rLenQ (K : PySem.W.Frag) : List V → Hp → VK → Prop := fun xs H Q => ∃ p ys, xs = [.ref p] ∧ (SqL K H p ys ∨ SqT K H p ys) ∧ Q (.int ys.length) H
abbrev teA (K : PySem.W.Frag) : TE := tCall (spBelow K) [] E0 (tCons (tCB (rLenQ K) (tCons (tFld K (tVar 0) "_leads") tNil)) (tCons (tVar 2) tNil))
abbrev teB (K : PySem.W.Frag) : TE := tOp (rIn K false) (tVar 3) (tOp (rIxT K) (tFld K (tVar 0) "_leads") (tVar 2))
section
variable {P : Program} {w : World} {K : PySem.W.Frag} {mg : Str → Option Value} {base : Heap}
theorem scIsWay : FnScope ["program", "thing", "place", "after"] ["program", "thing"] (defScope sIsWay) := ⟨rfl, rfl, rfl, by decide +kernel, rfl, by decide +kernel, by decide +kernel⟩
theorem ok_is_way {C f : Addr} {fd : FuncData} (F : FnP K "is_way" sIsWay f fd) (T : Bi mg) (c : PrC K C) (C_is_number_below : Cal P w K mg base "is_number_below" 2 ["limit", "thing"] (spBelow K)) : FnOk P w K mg base CX0 3 f fd ["program", "thing"] (spIsWay K C) := by
  refine F.ok scIsWay (fun vs H Q E h => ?_) (fun cdv A outer s H vs Q E hr h => ?_)
  · obtain ⟨x, v, b, rfl, _⟩ := h
    rfl
  · obtain ⟨x, v, b, rfl, ⟨dx, vb, ra, na, la, rs, ls, yn, hx, tv, G, h1, h2, h3, h4, h5, h6⟩, h⟩ := h
    have hr_is_number_below := hr
    have hln := h4.len
    rw [List.length_map] at hln
    refine ⟨_, PSs.nox (pss_cons (ps_if (PW.pt (pw_or (pt_not (pt_val (pe_callB call_isi (by rfl) T.b_isinstance (by decide +kernel) (pa_cons (pv 1) (pa_cons (pe_bltn (v := .ty "tuple") (by rfl) T.b_tuple (by decide +kernel) rfl) pa_nil))))) (pw_or1 (pt_not (pt_truth (pv 1) (by intro _; rfl)))))) (pss_one (ps_ret pe_bl)) pss_nil)
    (pss_cons (ps_if (pt_not (pt_val (pe_callB (cr_all rfl) (by rfl) T.b_all (by decide +kernel) (pa_cons (pe_lcS (own := [("place", 2)]) (g := gName 2) (tt := tYes) (te := teA K) (by rfl) scIsWay.nd (pi_tup (pv 1)) (blkOk_by (N := ["program", "thing", "place", "after"]) (sc := defScope sIsWay) (by decide +kernel)) (fun _ _ _ _ _ => (pg_name (i := 2) scIsWay.nd rfl (Or.inl rfl))) (fun _ _ _ _ _ => pts_nil) (fun _ _ _ _ _ => ((pcal C_is_number_below hr_is_number_below rfl (pa_cons (pe_callB call_len_seq (by rfl) T.b_len (by decide +kernel) (pa_cons (pe_fld (pv 0) (by rfl)) pa_nil)) (pa_cons (pv 2) pa_nil)))))) pa_nil)))) (pss_one (ps_ret pe_bl)) pss_nil)
    (pss_one (ps_ret (pe_callB (cr_all rfl) (by rfl) T.b_all (by decide +kernel) (pa_cons (pe_lcS (own := [("place", 2), ("after", 3)]) (g := gTup K 2 (gCons (gName 2) (gCons (gName 3) gNil))) (te := teB K) (tt := tYes) (by rfl) scIsWay.nd (RZ.pi_zipA (by rfl) T.b_zip (pa_cons (pv 1) (pa_cons (pe_slice sl_tupZ (pv 1) (po_some pe_int) po_none) pa_nil))) (blkOk_by (N := ["program", "thing", "place", "after"]) (sc := defScope sIsWay) (by decide +kernel)) (fun _ _ _ _ _ => (pg_tup rfl (pgs_cons (pg_name (i := 2) scIsWay.nd rfl (Or.inl rfl)) (pgs_cons (pg_name (i := 3) scIsWay.nd rfl (Or.inl rfl)) pgs_nil)))) (fun _ _ _ _ _ => pts_nil) (fun _ _ _ _ _ => ((pe_cmpR op_in_seq (pv 3) (pe_ix ix_tup (pe_fld (pv 0) (by rfl)) (pv 2) (fun _ _ => rfl)) (by with_unfolding_all rfl))))) pa_nil)))))), ?_⟩
    rcases h with ⟨t, ht, e, k⟩ | ⟨a, xs, cs, rfl, hS, hcs, hxl, k⟩
    · exact ⟨_, rfl, _, _, _, _, false, rfl, .ty "tuple", ht, e, false, rfl, k _ (fun _ _ h => h)⟩
    · have hcl := hcs.len
      refine ⟨_, rfl, _, _, _, _, true, rfl, .ty "tuple", tyT hS, rfl, true, rfl, _, rfl, !xs.isEmpty, .inr (.inl ⟨_, hS, rfl⟩), ?_⟩
      cases hcs with
      | nil => exact k _ (fun _ _ h => h)
      | @cons y0 c0 xs' cs' hi0 hi =>
        have hcs := All2.cons hi0 hi
        refine lc_into ?_
        refine ⟨_, rfl, a, rfl, ⟨_, hS⟩, ?_⟩
        refine lc_overA (p := none) (as := c0 :: cs') (Rel := fun _ e y => y = .bl (inRg (leadsP b).length e)) it_tup hcl.symm (fun _ _ _ _ _ h => h) (fun _ h => nomatch h) (Nat.lt_of_le_of_lt hxl (by decide)) (fun H' _ pt => pt.sq hS) ?_ ?_
        · intro i z e hz he H' kq pt R kR
          obtain ⟨e', he', itm⟩ := All2.get hcs hz
          rw [he] at he'
          cases he'
          have sm := Kq.same kq
          refine ⟨rfl, _, rfl, x, C, dx, _, _, rfl, sm _ _ hx, c.c, c.n3, rfl, la, _, rfl, .inr (pt.sq h3), _, rfl, ?_⟩
          rw [hln]
          cases itm.same sm with
          | int j => exact ⟨_, _, rfl, .inl ⟨j, rfl, kR _ _ Kq.refl (Pt.refl _) rfl⟩⟩
          | oth hn => exact ⟨_, _, rfl, .inr ⟨hn, kR _ _ Kq.refl (Pt.refl _) rfl⟩⟩
        · intro D ys H2 kq pt nD hD all
          have ey := All2.map all
          subst ey
          have s2 := Kq.same kq
          refine ⟨D, (c0 :: cs').map (inRg (leadsP b).length), rfl, SqL.of (by rw [hD, List.map_map]; rfl), _, rfl, ?_⟩
          cases hall : ((c0 :: cs').map (inRg (leadsP b).length)).all id with
          | false =>
            have ej : judge (leadsP b) (c0 :: cs') = false := by
              unfold judge
              rw [hall]
              simp
            rw [ej] at k
            exact k _ s2
          | true =>
            refine lc_into ?_
            refine ⟨_, rfl, _, rfl, 1, rfl, a, _, rfl, pt.sq hS, fun q H3 s3 hq => ?_⟩
            rw [show cutV (y0 :: xs') (some 1) none = xs' from cut1] at hq
            have s23 := s2.trans s3
            refine ⟨a, q, y0 :: xs', xs', rfl, .inr ⟨s23.pt.sq hS, hq, ?_⟩⟩
            have hcl' : cs'.length = xs'.length := by
              have := hcl
              simp only [List.length_cons] at this
              omega
            refine lc_overY (as := List.range ((c0 :: cs').length - 1)) (Rel := fun _ kk y => y = .bl (stepB (leadsP b) ((c0 :: cs').map natOf) kk)) it_zipT ?_ (fun _ _ _ _ _ h => h) ?_ (fun H' _ pt => ⟨pt.sq (s23.pt.sq hS), pt.sq hq⟩) ?_ ?_
            · rw [List.length_range, List.length_cons, List.length_cons, hcl']
              omega
            · refine Nat.lt_of_le_of_lt (Nat.le_trans (Nat.min_le_left _ _) hxl) (by decide)
            · rintro i y kk hk H4 s4 pt4 ⟨T', x1, x2, rfl, hT, e1, e2⟩ R kR
              have hik : kk = i := by
                have := List.getElem?_eq_some_iff.mp hk
                obtain ⟨_, h⟩ := this
                rw [List.getElem_range] at h
                exact h.symm
              subst hik
              obtain ⟨o1, q1, it1⟩ := All2.get hcs e1
              obtain ⟨o2, q2, it2⟩ := All2.get hcs (i := kk + 1) (a := x2) (by rw [List.getElem?_cons_succ]; exact e2)
              obtain ⟨m1, rfl, hm1, g1⟩ := inR_all hall q1
              obtain ⟨m2, rfl, hm2, g2⟩ := inR_all hall q2
              cases it1
              cases it2
              have hl1 : (leadsP b)[m1]? = some (leadsP b)[m1] := List.getElem?_eq_getElem hm1
              have s24 := s23.trans s4
              obtain ⟨yl, hyl, tyl⟩ := Tvs.get (i := m1) (d := encL (leadsP b)[m1]) (h4.pt s24.pt) (by rw [List.getElem?_map, hl1]; rfl)
              obtain ⟨al, xl, rfl, hal, tal⟩ := tyl.tupI
              have exl := Tvs.ints tal
              subst exl
              refine ⟨T', _, rfl, .inl (.inl hT), rfl, _, _, rfl, _, _, rfl, rfl, rfl, ?_⟩
              refine ⟨_, rfl, _, rfl, x, C, dx, _, _, rfl, s24 _ _ hx, c.c, c.n3, rfl, _, rfl, la, _, _, _, rfl, rfl, s24.pt.sq h3, at_of (j := m1) rfl hyl, al, _, rfl, .inr hal, rfl, flat_ints _, ?_⟩
              refine kR _ _ (fun _ _ h => h) ?_
              show V.bl (inV (.int (m2 : Int)) _) = _
              rw [inV_ints]
              unfold stepB
              rw [g1, g2, List.getD_eq_getElem?_getD, hl1]
              rfl
            · intro D2 ys2 H4 s4 pt4 nD2 hD2 all2
              have ey2 := All2.map all2
              subst ey2
              refine ⟨D2, (List.range ((c0 :: cs').length - 1)).map (stepB (leadsP b) ((c0 :: cs').map natOf)), rfl, SqL.of (by rw [hD2, List.map_map]; rfl), ?_⟩
              have ej : judge (leadsP b) (c0 :: cs') = ((List.range ((c0 :: cs').length - 1)).map (stepB (leadsP b) ((c0 :: cs').map natOf))).all id := by
                unfold judge
                rw [hall]
                rfl
              rw [← ej]
              exact k _ (s23.trans s4)
end
end K24
set_option Elab.async false
set_option linter.all false
set_option maxRecDepth 100000
set_option maxHeartbeats 4000000
namespace PM
open PySem PySem.Spec PyProof.Rows L2 ZX ZR
mutual
theorem leadsR_le : ∀ (r : Rw) (p e : Nat), ∀ l ∈ leadsR r p e, ∀ n ∈ l, n ≤ max (p + (rowsR r).length) e
  | .either a b, p, e, l, hl, n, hn => by
    have hlen : (rowsR (.either a b)).length = (rowsB a).length + (rowsB b).length + 1 := by
      show ((rowsB a ++ rowsB b).length + 1) = _
      rw [List.length_append]
    rw [hlen]
    rcases List.mem_cons.mp hl with rfl | hl
    · simp only [List.mem_cons, List.not_mem_nil, or_false] at hn
      rcases hn with rfl | rfl
      · split <;> omega
      · split <;> omega
    · rcases List.mem_append.mp hl with hl | hl
      · have := leadsB_le a (p + 1) e l hl n hn
        omega
      · have := leadsB_le b (p + 1 + (rowsB a).length) e l hl n hn
        omega
  | .again a, p, e, l, hl, n, hn => by
    have hlen : (rowsR (.again a)).length = (rowsB a).length + 1 := rfl
    rw [hlen]
    rcases List.mem_cons.mp hl with rfl | hl
    · simp only [List.mem_cons, List.not_mem_nil, or_false] at hn
      rcases hn with rfl | rfl
      · split <;> omega
      · omega
    · have := leadsB_le a (p + 1) p l hl n hn
      omega
  | .note _ _ _, p, e, l, hl, n, hn => by
    rw [List.mem_singleton.mp hl] at hn
    rw [List.mem_singleton.mp hn]
    exact Nat.le_max_right _ _
  | .copy _ _, p, e, l, hl, n, hn => by
    rw [List.mem_singleton.mp hl] at hn
    rw [List.mem_singleton.mp hn]
    exact Nat.le_max_right _ _
  | .give _ _, p, e, l, hl, n, hn => by
    rw [List.mem_singleton.mp hl] at hn
    rw [List.mem_singleton.mp hn]
    exact Nat.le_max_right _ _
  | .ask _, p, e, l, hl, n, hn => by
    rw [List.mem_singleton.mp hl] at hn
    rw [List.mem_singleton.mp hn]
    exact Nat.le_max_right _ _
  | .prt _, p, e, l, hl, n, hn => by
    rw [List.mem_singleton.mp hl] at hn
    rw [List.mem_singleton.mp hn]
    exact Nat.le_max_right _ _
theorem leadsB_le : ∀ (b : List Rw) (p e : Nat), ∀ l ∈ leadsB b p e, ∀ n ∈ l, n ≤ max (p + (rowsB b).length) e
  | [], p, e, l, hl, n, hn => nomatch hl
  | r :: b, p, e, l, hl, n, hn => by
    have hlen : (rowsB (r :: b)).length = (rowsR r).length + (rowsB b).length := List.length_append
    rw [hlen]
    rcases List.mem_append.mp hl with hl | hl
    · have := leadsR_le r p _ l hl n hn
      split at this <;> omega
    · have := leadsB_le b (p + (rowsR r).length) e l hl n hn
      omega
end
mutual
theorem leadsR_two : ∀ (r : Rw) (p e : Nat), ∀ l ∈ leadsR r p e, l.length ≤ 2
  | .either a b, p, e, l, hl => by
    rcases List.mem_cons.mp hl with rfl | hl
    · exact Nat.le_refl _
    · rcases List.mem_append.mp hl with hl | hl
      · exact leadsB_two a _ _ l hl
      · exact leadsB_two b _ _ l hl
  | .again a, p, e, l, hl => by
    rcases List.mem_cons.mp hl with rfl | hl
    · exact Nat.le_refl _
    · exact leadsB_two a _ _ l hl
  | .note _ _ _, p, e, l, hl => by
    rw [List.mem_singleton.mp hl]
    exact Nat.le_succ 1
  | .copy _ _, p, e, l, hl => by
    rw [List.mem_singleton.mp hl]
    exact Nat.le_succ 1
  | .give _ _, p, e, l, hl => by
    rw [List.mem_singleton.mp hl]
    exact Nat.le_succ 1
  | .ask _, p, e, l, hl => by
    rw [List.mem_singleton.mp hl]
    exact Nat.le_succ 1
  | .prt _, p, e, l, hl => by
    rw [List.mem_singleton.mp hl]
    exact Nat.le_succ 1
theorem leadsB_two : ∀ (b : List Rw) (p e : Nat), ∀ l ∈ leadsB b p e, l.length ≤ 2
  | [], p, e, l, hl => nomatch hl
  | r :: b, p, e, l, hl => by
    rcases List.mem_append.mp hl with hl | hl
    · exact leadsR_two r _ _ l hl
    · exact leadsB_two b _ _ l hl
end
theorem leads_two {b : List Rw} {l : List Nat} (h : l ∈ leadsP b) : l.length ≤ 2 := by
  rcases List.mem_append.mp h with h | h
  · exact leadsB_two b _ _ l h
  · rw [List.mem_singleton.mp h]
    exact Nat.zero_le _
theorem leadsP_lt {b : List Rw} {i : Nat} {l : List Nat} (h : (leadsP b)[i]? = some l) : ∀ n ∈ l, n < (leadsP b).length := fun n hn => by
  rw [leadsP_len]
  have hm := List.mem_of_getElem? h
  rcases List.mem_append.mp hm with hm | hm
  · have := leadsB_le b 0 _ l hm n hn
    omega
  · rw [List.mem_singleton.mp hm] at hn
    cases hn
/-- a way: places, each a next one of the one ahead -/
structure WayOk (ls : List (List Nat)) (ns : List Nat) : Prop where
  ne : ns ≠ []
  lt : ∀ n ∈ ns, n < ls.length
  st : ∀ k, k + 1 < ns.length → stepB ls ns k = true
theorem nat_map (ns : List Nat) : (ns.map fun (n : Nat) => (some (n : Int) : Option Int)).map natOf = ns := by
  induction ns with
  | nil => rfl
  | cons n ns ih => rw [List.map_cons, List.map_cons, ih]; rfl
theorem WayOk.judge {ls : List (List Nat)} {ns : List Nat} (w : WayOk ls ns) : judge ls (ns.map fun (n : Nat) => (some (n : Int) : Option Int)) = true := by
  unfold PM.judge
  rw [nat_map]
  have h1 : (ns.map fun (n : Nat) => (some (n : Int) : Option Int)).isEmpty = false := by
    cases ns with
    | nil => exact absurd rfl w.ne
    | cons _ _ => rfl
  have h2 : ((ns.map fun (n : Nat) => (some (n : Int) : Option Int)).map (inRg ls.length)).all id = true := by
    refine List.all_eq_true.mpr fun x hx => ?_
    obtain ⟨c, hc, rfl⟩ := List.mem_map.mp hx
    obtain ⟨n, hn, rfl⟩ := List.mem_map.mp hc
    have := w.lt n hn
    show (decide (0 ≤ (n : Int)) && decide ((n : Int) < (ls.length : Int))) = true
    rw [decide_eq_true (by omega), decide_eq_true (by omega)]
    rfl
  have h3 : ((List.range ((ns.map fun (n : Nat) => (some (n : Int) : Option Int)).length - 1)).map (stepB ls ns)).all id = true := by
    refine List.all_eq_true.mpr fun x hx => ?_
    obtain ⟨k, hk, rfl⟩ := List.mem_map.mp hx
    rw [List.length_map] at hk
    have := List.mem_range.mp hk
    exact w.st k (by omega)
  rw [h1, h2, h3]
  rfl
theorem WayOk.one {ls : List (List Nat)} {n : Nat} (h : n < ls.length) : WayOk ls [n] :=
  ⟨by simp, fun m hm => by rw [List.mem_singleton.mp hm]; exact h, fun k hk => by simp at hk⟩
theorem getD_app {ns : List Nat} {m k : Nat} (h : k < ns.length) : (ns ++ [m]).getD k 0 = ns.getD k 0 := by
  rw [List.getD_eq_getElem?_getD, List.getD_eq_getElem?_getD, List.getElem?_append_left h]
theorem WayOk.snoc {ls : List (List Nat)} {ns : List Nat} {m : Nat} {l : List Nat} (w : WayOk ls ns) (hl : ls[ns.getD (ns.length - 1) 0]? = some l) (hm : m ∈ l) (h : m < ls.length) : WayOk ls (ns ++ [m]) := by
  have hp : 0 < ns.length := List.length_pos_iff.mpr w.ne
  refine ⟨by simp, fun n hn => ?_, fun k hk => ?_⟩
  · rcases List.mem_append.mp hn with hn | hn
    · exact w.lt n hn
    · rw [List.mem_singleton.mp hn]
      exact h
  · rw [List.length_append, List.length_singleton] at hk
    by_cases hk2 : k + 1 < ns.length
    · have := w.st k hk2
      unfold stepB at this ⊢
      rw [getD_app hk2, getD_app (by omega)]
      exact this
    · have e : k = ns.length - 1 := by omega
      unfold stepB
      rw [getD_app (by omega), e, List.getD_eq_getElem?_getD (l := ns ++ [m]), List.getElem?_append_right (by omega), List.getD_eq_getElem?_getD (l := ls), hl]
      have e2 : ns.length - 1 + 1 - ns.length = 0 := by omega
      rw [e2]
      show decide (m ∈ l) = true
      exact decide_eq_true hm
end PM
set_option Elab.async false
set_option linter.all false
set_option maxRecDepth 100000
set_option maxHeartbeats 4000000
/-! A written dict of one entry whose key is a tuple. -/
namespace ZR
open PySem PySem.Spec PyProof.Rows L2 ZX PM RZ
theorem wpAny_Dict_of {prog : Program} {w : World} {κ : Type} [DecidableEq κ] {knd : HeapKind prog w κ} {A : Around} {E : Value → Shared → Prop} {s : Shared} {env : Env} {keys : List (Option Expr)} {values : List Expr} {pos : Pos} {pairs : List (Sem Value × Sem Value)} {Q : Value → Shared → Prop}
    (hu : knd.room A) (hshape : (evalEachOpt keys env).zip (List.map (fun v => do let x ← v; standAt pos; pure x) (evalEach values env)) = List.map (fun p => (some p.fst, p.snd)) pairs) (h0 : pairs ≠ []) (hlen : pairs.length ≤ 15)
    (h : wpAny (model prog w) A (evalPairs pairs) (fun vs s₁ => ∃ ps, CarriesH knd s₁.heap vs ps ∧ Heap.DictOfH knd s₁.heap s.heap.objs.size [] ∧ ∀ (h' : Heap) (tk : Nat), Heap.DictOfH knd h' s.heap.objs.size (storedAllH [] ps) → Heap.SameBut s.heap.objs.size s₁.heap h' → Q (Value.ref s.heap.objs.size) { heap := h', gens := s₁.gens, drawn := s₁.drawn, toks := tk, os := s₁.os }) E
      { heap := s.heap.push { cls := Value.type "dict", data := Data.dict #[] }, gens := s.gens, drawn := s.drawn, toks := s.toks, os := s.os }) :
    wpAny (model prog w) A (eval (Expr.Dict keys values pos) env) Q E s := by
  rw [arm_eval_Dict, hshape, dictDisplay_pairs pairs h0 (by omega)]
  refine wpAny_bind (wpAny_standAt (wpAny_bind (wpAny_subDictH hu hlen (wpAny_mono h (fun vs s₁ h₁ => ?_) fun _ _ e => e))))
  obtain ⟨ps, hc, hm, hq⟩ := h₁
  exact ⟨ps, hc, hm, fun h' tk a b => wpAny_pure (hq h' tk a b)⟩
section
variable {X : Cx}
/-- {k: v}: the key is a tuple of numbers and texts -/
def tDispT (tk tv : TE) : TE := fun σ H Q => ∀ p, H p = none → tk σ (upd H p (.dT [])) fun x H1 => tv σ H1 fun y H2 => H2 p = some (.dT []) ∧ ∃ (b : Addr) (ks : List Key), x = .ref b ∧ H2 b = some (.tup (ks.map kV)) ∧ Q (.ref p) (upd H2 p (.dT [(ks, y)]))
theorem pe_dispT {k v : Expr} {pos : Pos} {tk tv : TE} (hu : X.A.units + 1 < cLine) (hk : PE X k tk) (hv : PE X v tv) : PE X (.Dict [some k] [v] pos) (tDispT tk tv) := by
  refine ⟨fun pins s σ H Q I q => ?_⟩
  have hn := HOk.fresh I.hok (Nat.le_refl s.heap.objs.size)
  have I1 := Inv.laid (t' := s.toks) I (fun x x_1 q => Heap.get?_push_of_some { cls := Value.type "dict", data := Data.dict #[] } q) (Nat.le_refl s.heap.objs.size) (dt_empty s.heap (Inv.big I))
  have hp : PPs X pos [some k] [v] [(tk, tv)] := pps_cons hk hv pps_nil
  refine wpAny_Dict_of (knd := tupleKind (mixKind X.prog X.w)) (pairs := pairTrees [some k] [v] X.env pos) ?_ rfl (by intro z; cases z) (by show 1 ≤ 15; decide) ?_
  · show X.A.units < cLine
    omega
  · refine thn (hp.run pins _ σ _ (fun ps H2 => match ps with
      | [(x, y)] => H2 s.heap.objs.size = some (.dT []) ∧ ∃ (b : Addr) (ks : List Key), x = .ref b ∧ H2 b = some (.tup (ks.map kV)) ∧ Q (.ref s.heap.objs.size) (upd H2 s.heap.objs.size (.dT [(ks, y)]))
      | _ => False) I1 (q s.heap.objs.size hn)) fun ws s2 h2 => ?_
    obtain ⟨ps, H2, I2, rel, hq⟩ := h2
    match ps, ws, rel, hq with
    | [(x, y)], [(u1, u2)], rel, ⟨e, b, ks, ex, hb, hQ⟩ =>
      subst ex
      obtain ⟨z, hd, xs0, r0, dd⟩ := dt_of I2.hok e
      cases r0
      cases rel with
      | cons h t =>
        have hr1 : L2.RelV (.ref b) u1 := h.1
        have hr2 : L2.RelV y u2 := h.2
        cases hr1
        have nb : b ≠ s.heap.objs.size := fun z => by
          rw [z, e] at hb
          cases hb
        refine ⟨[(ks, b, u2)], ?_, dd, fun h' tk dd' hs => ?_⟩
        · simp only [CarriesH]
          exact ⟨trivial, trivial, key_of I2.hok hb, trivial⟩
        · refine ⟨.ref s.heap.objs.size, upd H2 s.heap.objs.size (.dT [(ks, y)]), d_write I2 (by rw [e]; trivial) hs ?_ ?_, rfl, hQ⟩
          · obtain ⟨o, es, ep, ho, _⟩ := dd'
            exact ⟨o, ho⟩
          · refine ⟨by show 1 ≤ sizeLine; decide, hd, [(ks, b, u2)], .cons ⟨rfl, by rw [upd_ne nb]; exact hb, hr2⟩ .nil, ?_⟩
            obtain ⟨o, es, ep, h1, h2, h3, h4, _, h6⟩ := dd'
            exact ⟨o, es, ep, h1, h2, h3, h4, h6⟩
end
end ZR
set_option Elab.async false
set_option linter.all false
set_option maxRecDepth 100000
set_option maxHeartbeats 4000000
/-! == and in of things unlike a text. -/
namespace ZR
open PySem PySem.Spec PyProof.Rows L2 ZX PM RZ
theorem dict_declines_str (l : Addr) (es : Array DictEntry) (n : Nat) (dd : Option Addr) (sl : Array (Option Value)) (b : Str) (u : Tok) :
    Meets (Builtin.«dict.__eq__» { pos := [Value.ref l, Value.str b u] }) fun x R s => s.heap.get? l = some { cls := Value.type "dict", dict := dd, data := Data.dict es n, slots := sl } ∧ R (Except.ok (Flow.ret Value.notImplemented)) s :=
  Meets.of_wp fun prog w A R s h => by
    obtain ⟨hl, h⟩ := h
    have f1 := F.sub_str_dict
    show wpAny (model prog w) A.in1 (Builtin.«dict.__eq__» { pos := [Value.ref l, Value.str b u] }) _ _ s
    refine wpAny_bind ?_
    have e1 : Builtin.Dict.dictSlotArgs "__eq__" { pos := [Value.ref l, Value.str b u] } = pure (Value.ref l, Value.str b u) := by
      rfl
    rw [e1]
    refine wpAny_pure ?_
    show wpAny (model prog w) A.in1 (isInstance (Value.str b u) (Value.type "dict") >>= _) _ _ s
    have e2 : isInstance (Value.str b u) (Value.type "dict") = pure false := by
      rw [← f1]
      rfl
    rw [e2]
    refine wpAny_bind (wpAny_pure (wpAny_ite_true rfl ?_))
    exact wpAny_bind (wpAny_rule (wpAny_pure ⟨_, rfl, h⟩))
theorem str_declines_dict (b : Str) (u : Tok) (l : Addr) (es : Array DictEntry) (n : Nat) (dd : Option Addr) (sl : Array (Option Value)) :
    Meets (Builtin.«str.__eq__» { pos := [Value.str b u, Value.ref l] }) fun x R s => s.heap.get? l = some { cls := Value.type "dict", dict := dd, data := Data.dict es n, slots := sl } ∧ R (Except.ok (Flow.ret Value.notImplemented)) s :=
  Meets.of_wp fun prog w A R s h => by
    obtain ⟨hl, h⟩ := h
    show wpAny (model prog w) A.in1 (Builtin.«str.__eq__» { pos := [Value.str b u, Value.ref l] }) _ _ s
    refine wpAny_bind (wpAny_bind ?_)
    have e1 : slotArgs "__eq__" 1 { pos := [Value.str b u, Value.ref l] } = pure (Value.str b u, [Value.ref l]) := by
      rfl
    rw [e1]
    refine wpAny_pure ?_
    refine wpAny_bind ?_
    refine wpAny_pure ?_
    refine wpAny_pure ?_
    refine wpAny_bind ?_
    refine wpAny_bind (wpAny_load hl (wpAny_pure ?_))
    exact wpAny_bind (wpAny_rule (wpAny_pure ⟨_, rfl, h⟩))
theorem rc_dict_str {A : Around} {s : Shared} {l : Addr} {es : Array DictEntry} {n : Nat} {dd : Option Addr} {sl : Array (Option Value)} (b : Str) (u : Tok) (ho : s.heap.get? l = some { cls := Value.type "dict", dict := dd, data := Data.dict es n, slots := sl }) (hu : A.units < cLine) : SeqAt.RcAt A s (Value.ref l) (Value.str b u) false := fun prog w E Q h =>
  SeqAt.rc_eq_decline_or ⟨_, ho, rfl⟩ (typeIs_str s b u) (by decide) F.sub_str_dict F.slot_dict_eq F.slot_str_eq_refl
    (fun x hq => call_meets F.slot_dict_eq ⟨_, ho, rfl⟩ F.entry_dict_eq (F.args_dict_eq_2 (Value.ref l) (Value.str b u)) (dict_declines_str l es n dd sl b u) ⟨ho, hq⟩)
    (fun x hq => call_meets F.slot_str_eq_refl (typeIs_str s b u) F.entry_str_eq (F.args_str_eq_2 (Value.str b u) (Value.ref l)) (str_declines_dict b u l es n dd sl) ⟨ho, hq⟩)
    (fun x hq => wpAny_of_eq rfl hq) (Or.inr hu) h
/-- == of an object and a text, where comparing tells False -/
theorem eq_of_rc {A : Around} {s : Shared} {l : Addr} {b : Str} {u : Tok} (h : SeqAt.RcAt A s (Value.ref l) (Value.str b u) false) : SeqAt.EqAt A s (Value.ref l) (Value.str b u) false := fun prog w E Q hq => by
  unfold eqBool
  refine wpAny_holding ?_
  refine wpAny_ite_false rfl ?_
  refine wpAny_bind (h prog w E _ ?_)
  exact wpAny_truthy_bool hq
/-- a list, a tuple, a dict -/
inductive Cnt (K : PySem.W.Frag) (H : Hp) : V → Prop
  | lst {a : Addr} {xs : List V} (h : SqL K H a xs) : Cnt K H (.ref a)
  | tup {a : Addr} {xs : List V} (h : SqT K H a xs) : Cnt K H (.ref a)
  | dic {a : Addr} {kvs : List (Key × V)} (h : H a = some (.dK kvs)) : Cnt K H (.ref a)
/-- an item that may be held against a text -/
def ItL (K : PySem.W.Frag) (H : Hp) (v : V) : Prop := flatV v = true ∨ Cnt K H v
theorem eqU_str {z : Str} {v : V} {u : Value} (r : L2.RelV v u) {K : PySem.W.Frag} {H : Hp} (h : ItL K H v) : eqU (.str z) u = decide (v = .str z) := by
  cases v with
  | non => cases r; rfl
  | bl b => cases r; rfl
  | int i =>
    obtain ⟨t, rfl⟩ := r
    rfl
  | str x =>
    obtain ⟨t, rfl⟩ := r
    show (x == z) = _
    by_cases e : x = z
    · subst e
      simp
    · rw [beq_eq_false_iff_ne.mpr e, decide_eq_false (fun q => e (V.str.inj q))]
  | ref a => cases r; rfl
  | _ => rcases h with h | h <;> cases h
section
variable {X : Cx} {pins : List (Addr × Obj)} {σ : L2.St} {H : Hp} {s : Shared}
theorem itl_eq {A : Around} (I : L2.Inv X pins σ H s) {v : V} {u : Value} (r : L2.RelV v u) (h : ItL X.K H v) {z : Str} {w : Value} (rw0 : L2.RelV (.str z) w) (hu : A.units < cLine) : SeqAt.EqAt A s u w (eqU (.str z) u) := by
  rcases h with h | h
  · exact mem_eqAt rw0 rfl (.cons r .nil) (by simp [h]) u List.mem_cons_self
  · obtain ⟨t, rfl⟩ := rw0
    cases h with
    | lst h =>
      cases r
      obtain ⟨its, _, pl, _⟩ := I.list h
      exact eq_of_rc (SeqAt.RcAt.list_str z t (PlainL.isList pl) hu)
    | tup h =>
      cases r
      obtain ⟨its, _, pl, _⟩ := I.tuple h
      exact eq_of_rc (SeqAt.RcAt.tuple_str z t pl hu)
    | dic h =>
      cases r
      obtain ⟨_, _, vs, _, o, es, ep, ho, hx, hd, _⟩ := dk_of I.hok h
      cases o with
      | mk cls dd data sl =>
        have hc : cls = Value.type "dict" := by first | exact hx | exact hx.1 | exact hx.2
        have hd' : data = Data.dict es ep := hd
        subst hc
        subst hd'
        exact eq_of_rc (rc_dict_str z t ho hu)
end
section
variable {X : Cx}
/-- a text in a tuple of such items -/
def rInL (K : PySem.W.Frag) : R2 := fun x y H Q => ∃ (z : Str) (a : Addr) (xs : List V), x = .str z ∧ y = .ref a ∧ SqT K H a xs ∧ (∀ v ∈ xs, ItL K H v) ∧ Q (.bl (decide (V.str z ∈ xs))) H
theorem any_itl {K : PySem.W.Frag} {H : Hp} {z : Str} : ∀ {xs : List V} {its : List Value}, Vals xs its → (∀ v ∈ xs, ItL K H v) → its.any (eqU (.str z)) = decide (V.str z ∈ xs)
  | _, _, .nil, _ => by simp
  | _, _, .cons (a := v) (l₁ := vs) r t, h => by
    rw [List.any_cons, eqU_str r (h _ List.mem_cons_self), any_itl t fun v hv => h v (List.mem_cons_of_mem _ hv)]
    by_cases e : v = .str z
    · subst e
      simp
    · have e2 : ¬ V.str z = v := fun q => e q.symm
      simp [e, e2]
theorem vals_mem {R : V → Value → Prop} : ∀ {xs : List V} {its : List Value}, Vals xs its → ∀ u ∈ its, ∃ v ∈ xs, L2.RelV v u
  | _, _, .nil, _, h => nomatch h
  | _, _, .cons r t, u, h => by
    rcases List.mem_cons.mp h with rfl | h
    · exact ⟨_, List.mem_cons_self, r⟩
    · obtain ⟨v, hv, r⟩ := vals_mem (R := R) t u h
      exact ⟨v, List.mem_cons_of_mem _ hv, r⟩
theorem vals_get : ∀ {xs : List V} {its : List Value} {j : Nat} {u : Value}, Vals xs its → its[j]? = some u → ∃ v, xs[j]? = some v ∧ L2.RelV v u
  | _, _, j, _, .nil, h => by simp at h
  | _, _, 0, _, .cons r t, h => by
    cases h
    exact ⟨_, rfl, r⟩
  | _, _, j + 1, _, .cons r t, h => vals_get (j := j) t h
theorem op_inL (hu : X.A.units + 1 < cLine) : OpR X (compareOp .In) (rInL X.K) := by
  intro pins s σ H x y v u Q I rx ry h
  obtain ⟨z, a, xs, rfl, rfl, ha, hi, q⟩ := h
  cases ry
  obtain ⟨its, r, pl, _⟩ := I.tuple ha
  refine SeqAt.in_tupleAt (eqU (.str z)) pl (fun w hw => ?_) ?_
  · obtain ⟨v', hv', r'⟩ := vals_mem (R := L2.RelV) r w (by simpa using hw)
    exact itl_eq I r' (hi v' hv') rx hu
  · have e : its.toArray.any (eqU (.str z)) = decide (V.str z ∈ xs) := by
      rw [← any_itl r hi]
      simp
    rw [e]
    exact ⟨.bl _, H, I, rfl, q⟩
/-- such a tuple == a tuple of texts -/
def rEqL (K : PySem.W.Frag) : R2 := fun x y H Q => ∃ (a b : Addr) (xs : List V) (L : List Str), x = .ref a ∧ y = .ref b ∧ SqT K H a xs ∧ SqT K H b (L.map V.str) ∧ (∀ v ∈ xs, ItL K H v) ∧ Q (.bl (decide (xs = L.map V.str))) H
theorem op_eqL (hu : X.A.units + 1 < cLine) : OpR X (compareOp .Eq) (rEqL X.K) := by
  intro pins s σ H x y v u Q I rx ry h
  obtain ⟨a, b, xs, L, rfl, rfl, ha, hb, hi, q⟩ := h
  cases rx
  cases ry
  obtain ⟨its, r1, p1, _⟩ := I.tuple ha
  obtain ⟨its2, r2, p2, _⟩ := I.tuple hb
  show wpAny (model X.prog X.w) X.A (richCompare .Eq (.ref a) (.ref b)) (EP X pins σ Q) X.xe s
  have hl1 := r1.length
  have hl2 := r2.length
  refine SeqAt.RcAt.tuples (e := fun j => decide (xs[j]? = (L.map V.str)[j]?)) p1 p2 (Nat.lt_of_succ_lt hu) (fun j h1 h2 => ?_) X.prog X.w _ _ ?_
  · obtain ⟨v, hv, rv⟩ := vals_get (j := j) (u := its.toArray[j]) r1 (by simp at h1 ⊢)
    obtain ⟨w, hw, rw0⟩ := vals_get (j := j) (u := its2.toArray[j]) r2 (by simp at h2 ⊢)
    obtain ⟨z, rfl⟩ : ∃ z, w = V.str z := by
      rw [List.getElem?_map] at hw
      cases e : L[j]? with
      | none => rw [e] at hw; cases hw
      | some z => rw [e] at hw; exact ⟨z, (Option.some.inj hw).symm⟩
    have hiv := hi v (List.mem_of_getElem? hv)
    have e : decide (xs[j]? = (L.map V.str)[j]?) = eqU (.str z) its.toArray[j] := by
      rw [eqU_str rv hiv, hv, hw]
      congr 1
      exact propext ⟨Option.some.inj, fun e => by rw [e]⟩
    rw [e]
    exact itl_eq I rv hiv rw0 hu
  · have e : ((List.range (min its.toArray.size its2.toArray.size)).all (fun j => decide (xs[j]? = (L.map V.str)[j]?)) && its.toArray.size == its2.toArray.size) = decide (xs = L.map V.str) := by
      have s1 : its.toArray.size = xs.length := by rw [List.size_toArray, hl1]
      have s2 : its2.toArray.size = (L.map V.str).length := by rw [List.size_toArray, hl2]
      rw [s1, s2]
      by_cases h : xs = L.map V.str
      · rw [← h]
        simp
      · rw [decide_eq_false h]
        by_cases hl : xs.length = (L.map V.str).length
        · have : ∃ j, xs[j]? ≠ (L.map V.str)[j]? := Classical.byContradiction fun hn => h (List.ext_getElem? fun j => Classical.byContradiction fun q => hn ⟨j, q⟩)
          obtain ⟨j, hj⟩ := this
          have hjl : j < xs.length := Nat.lt_of_not_le fun q => hj (by rw [List.getElem?_eq_none q, List.getElem?_eq_none (by omega)])
          have : ((List.range (min xs.length (L.map V.str).length)).all fun j => decide (xs[j]? = (L.map V.str)[j]?)) = false := by
            rw [List.all_eq_false]
            exact ⟨j, List.mem_range.mpr (by omega), by simpa using hj⟩
          rw [this, Bool.false_and]
        · have : (xs.length == (L.map V.str).length) = false := by
            rw [beq_eq_false_iff_ne]
            exact hl
          rw [this, Bool.and_false]
    rw [e]
    exact ⟨.bl _, H, I, rfl, q⟩
end
end ZR
set_option Elab.async false
set_option linter.all false
set_option maxRecDepth 100000
set_option maxHeartbeats 4000000
namespace PM
open PySem PySem.Spec PyProof.Rows L2 ZX ZR
/-- a sorted lot of names -/
structure Nms (ys : List Str) : Prop where
  so : sortedS ys = true
  nd : ys.Nodup
  l8 : ys.length ≤ 8
theorem Nms.pw {ys : List Str} (n : Nms ys) : ys.Pairwise leS := sorted_pw n.so
/-- a sorted list of the names of a set -/
theorem Nms.filt {ys zs : List Str} (n : Nms ys) {S : Str → Bool} (hs : sortedS zs = true) (nd : zs.Nodup) (me : ∀ x, x ∈ zs ↔ x ∈ ys ∧ S x = true) : zs = ys.filter S :=
  List.Perm.eq_of_pairwise (fun _ _ _ _ => leS_anti) (sorted_pw hs) (n.pw.sublist List.filter_sublist) ((List.perm_ext_iff_of_nodup nd (n.nd.sublist List.filter_sublist)).mpr fun x => by rw [me, List.mem_filter])
theorem flat_strs (L : List Str) : (L.map V.str).all flatV = true := by
  induction L with
  | nil => rfl
  | cons x L ih => exact ih
theorem inV_strs (x : Str) (L : List Str) : inV (.str x) (L.map V.str) = decide (x ∈ L) := by
  induction L with
  | nil => rfl
  | cons y L ih =>
    show (y == x || inV (.str x) (L.map V.str)) = _
    rw [ih]
    by_cases e : y = x
    · subst e
      simp
    · have e2 : ¬ x = y := fun z => e z.symm
      rw [beq_eq_false_iff_ne.mpr e, Bool.false_or]
      simp [e2]
end PM
namespace K24
open PySem PySem.Spec PyProof.Rows L2 ZX PM ZR
abbrev sWithName : Stmt := top 44
abbrev sLotBehind : Stmt := top 43
def spWithName (K : PySem.W.Frag) : Sp := fun vs H Q _ => ∃ (a : Addr) (x : Str) (c : Bool) (ys : List Str) (S : Str → Bool), vs = [.ref a, .str x, .bl c] ∧ Nms ys ∧ SqT K H a ((ys.filter S).map V.str) ∧ x ∈ ys ∧ ∀ q H', Same H H' → SqT K H' q ((ys.filter (putS S x c)).map V.str) → Q (.ref q) H'
section
variable {P : Program} {w : World} {K : PySem.W.Frag} {mg : Str → Option Value} {base : Heap}
theorem scWithName : FnScope ["lot", "name", "is_in", "others", "each"] ["lot", "name", "is_in"] (defScope sWithName) := ⟨rfl, rfl, rfl, by decide +kernel, rfl, by decide +kernel, by decide +kernel⟩
theorem ok_with_name {f : Addr} {fd : FuncData} (F : FnP K "with_name" sWithName f fd) (T : Bi mg) : FnOk P w K mg base CX0 1 f fd ["lot", "name", "is_in"] (spWithName K) := by
  refine F.ok scWithName (fun vs H Q E h => ?_) (fun cdv A outer s H vs Q E hr h => ?_)
  · obtain ⟨a, x, c, ys, S, rfl, _⟩ := h
    rfl
  · obtain ⟨a, x, c, ys, S, rfl, n, hS, hx, k⟩ := h
    refine ⟨_, PSs.nox (pss_cons (ps_setLcS (i := 3) (own := [("each", 4)]) (g := gName 4) rfl scWithName.nd rfl rfl (sw_true rfl rfl rfl (by decide +kernel)) (pi_tup (pv 0)) (blkOk_by (N := ["lot", "name", "is_in", "others", "each"]) (sc := defScope sWithName) (by decide +kernel)) (fun _ _ _ _ _ => (pg_name (i := 4) scWithName.nd rfl (Or.inl rfl))) (fun _ _ _ _ _ => (pts_one (pt_cmpR op_ne (pv 4) (pv 1) (nomark _)))) (fun _ _ _ _ _ => (pv 4)))
    (pss_one (ps_ret (pe_ifExp (pt_val (pv 2)) (pe_callTy call_tuple_of (by rfl) T.b_tuple (by decide +kernel) (pa_cons (pe_callB cr_sortedS (by rfl) T.b_sorted (by decide +kernel) (pa_cons (pe_op op_cat (pv 3) (pe_lst (pa_cons (pv 1) pa_nil))) pa_nil)) pa_nil)) (pe_callTy call_tuple_of (by rfl) T.b_tuple (by decide +kernel) (pa_cons (pv 3) pa_nil)))))), ?_⟩
    have l8 := n.l8
    have lf := List.length_filter_le S ys
    refine lc_into ?_
    refine ⟨_, rfl, a, rfl, ⟨_, hS⟩, ?_⟩
    refine lc_overF (as := ys.filter S) (Rel := fun _ c y => y = .str c) (fun z => decide (¬ z = x)) it_tup ?_ (fun _ _ _ _ _ h => h) ?_ (fun H' _ pt => pt.sq hS) ?_ ?_
    · rw [List.length_map]
    · rw [List.length_map]
      exact Nat.lt_of_le_of_lt (show _ ≤ 8 by omega) (by decide)
    · intro j z y hz hy H3 s3 pt3 R N kR kN
      rw [List.getElem?_map, hy] at hz
      cases hz
      refine ⟨rfl, _, rfl, _, rfl, rfl, _, rfl, ?_⟩
      by_cases e : y = x
      · subst e
        exact ifBF (by simp) (kN (by simp) _ fun _ _ h => h)
      · exact ifB (by simp [e]) ⟨_, rfl, kR (by simp [e]) _ _ (fun _ _ h => h) rfl⟩
    · intro D zs H3 s3 pt3 nD hD all
      have e := All2.map all
      subst e
      have lg := List.length_filter_le (fun z => decide (¬ z = x)) (ys.filter S)
      have hso : sortedS ((ys.filter S).filter fun z => decide (¬ z = x)) = true → True := fun _ => trivial
      have nd1 : ((ys.filter S).filter fun z => decide (¬ z = x)).Nodup := (n.nd.sublist List.filter_sublist).sublist List.filter_sublist
      refine ⟨_, rfl, c, rfl, ?_⟩
      cases c with
      | true =>
        refine ifB rfl ⟨_, rfl, _, rfl, by show 1 ≤ sizeLine; decide, fun q nq => ?_⟩
        have sq := same_new (o := .lst [V.str x]) nq
        refine ⟨D, q, _, _, rfl, rfl, sq _ _ hD, upd_same, ?_, fun u nu => ?_⟩
        · rw [List.length_map]
          exact Nat.le_trans (show _ + 1 ≤ 9 by omega) (by decide)
        have su := same_new (o := .lst ((((ys.filter S).filter fun z => decide (¬ z = x)).map V.str) ++ [V.str x])) nu
        refine ⟨u, ((ys.filter S).filter fun z => decide (¬ z = x)) ++ [x], rfl, SqL.of ?_, ?_, fun zs p pm so np => ⟨p, _, rfl, .inl ⟨SqL.of upd_same, fun t nt => ?_⟩⟩⟩
        · rw [upd_same, List.map_append]
          rfl
        · rw [List.length_append]
          show _ + 1 < 64
          omega
        have sp := same_new (o := .lst (zs.map V.str)) np
        have st := same_new (o := .tup (zs.map V.str)) nt
        have nd2 : (((ys.filter S).filter fun z => decide (¬ z = x)) ++ [x]).Nodup := by
          rw [List.nodup_append]
          refine ⟨nd1, by simp, fun y hy z hz => ?_⟩
          rw [List.mem_singleton.mp hz]
          have := (List.mem_filter.mp hy).2
          simpa using this
        have ez : zs = ys.filter (putS S x true) := n.filt so (pm.nodup_iff.mpr nd2) fun y => by
          rw [pm.mem_iff, List.mem_append, List.mem_singleton, List.mem_filter, List.mem_filter]
          unfold putS
          by_cases e : y = x
          · subst e
            simp [hx]
          · simp [e]
        rw [← ez] at k
        exact k t _ ((((s3.trans sq).trans su).trans sp).trans st) (.inl (.inl upd_same))
      | false =>
        refine ifBF rfl ⟨_, rfl, D, _, rfl, .inl ⟨SqL.of hD, fun t nt => ?_⟩⟩
        have st := same_new (o := .tup (((ys.filter S).filter fun z => decide (¬ z = x)).map V.str)) nt
        have ez : ((ys.filter S).filter fun z => decide (¬ z = x)) = ys.filter (putS S x false) := by
          rw [List.filter_filter]
          congr 1
          funext y
          unfold putS
          by_cases e : y = x
          · simp [e]
          · simp [e]
        rw [← ez] at k
        exact k t _ (s3.trans st) (.inl (.inl upd_same))
end
end K24
set_option Elab.async false
set_option linter.all false
set_option maxRecDepth 100000
set_option maxHeartbeats 4000000
namespace K24
open PySem PySem.Spec PyProof.Rows L2 ZX PM ZR
def spLotBehind (K : PySem.W.Frag) : Sp := fun vs H Q _ => ∃ (v : V) (r : Rw) (a : Addr) (ys : List Str) (S : Str → Bool), vs = [v, .ref a] ∧ RV K H v r ∧ Nms ys ∧ SqT K H a ((ys.filter S).map V.str) ∧ (∀ x ∈ namesR r, x ∈ ys) ∧ (namesR r).length ≤ 4 ∧
  (∀ S', moveS r S = some S' → ∀ q H', Same H H' → SqT K H' q ((ys.filter S').map V.str) → Q (.ref q) H') ∧ (moveS r S = none → ∀ H', Same H H' → Q .non H')
section
variable {P : Program} {w : World} {K : PySem.W.Frag} {mg : Str → Option Value} {base : Heap}
theorem scLotBehind : FnScope ["row", "lot", "word", "y"] ["row", "lot"] (defScope sLotBehind) := ⟨rfl, rfl, rfl, by decide +kernel, rfl, by decide +kernel, by decide +kernel⟩
theorem ok_lot_behind {f : Addr} {fd : FuncData} (F : FnP K "lot_behind" sLotBehind f fd) (T : Bi mg) (hA : Asking K mg) (bany : mg "any" = none) (C_with_name : Cal P w K mg base "with_name" 1 ["lot", "name", "is_in"] (spWithName K)) : FnOk P w K mg base CX0 2 f fd ["row", "lot"] (spLotBehind K) := by
  refine F.ok scLotBehind (fun vs H Q E h => ?_) (fun cdv A outer s H vs Q E hr h => ?_)
  · obtain ⟨v, r, a, ys, S, rfl, _⟩ := h
    rfl
  · obtain ⟨v, r, a, ys, S, rfl, tr, n, hS, hn, hl4, k1, k2⟩ := h
    obtain ⟨ask, m_ASKING, hask⟩ := hA
    have hr_with_name := hr
    refine ⟨_, PSs.nox (pss_cons (ps_set (i := 2) scLotBehind.nd rfl (Or.inl rfl) (pe_ix ix_tup (pv 0) pe_int (fun _ _ => rfl)))
    (pss_cons (ps_if (pt_cmpR op_in_seq (pv 2) (pe_glob (v := .ref _) rfl m_ASKING rfl) (by with_unfolding_all rfl)) (pss_one (ps_ret (pe_ifExp (pt_cmpR op_in_seq (pe_ix ix_tup (pv 0) pe_int (fun _ _ => rfl)) (pv 1) (by with_unfolding_all rfl)) pe_non (pv 1)))) pss_nil)
    (pss_cons (ps_if (pt_cmpR op_eq (pv 2) pe_str (nomark _)) (pss_one (ps_ret (pcal C_with_name hr_with_name rfl (pa_cons (pv 1) (pa_cons (pe_ix ix_tup (pv 0) pe_int (fun _ _ => rfl)) (pa_cons (pe_callB (cr_any rfl) (by rfl) bany (by decide +kernel) (pa_cons (pe_lcS (own := [("y", 3)]) (g := gName 3) (tt := tYes) (te := tOp (rIn K false) (tVar 3) (tVar 1)) (by rfl) scLotBehind.nd (pi_tup (pe_ix ix_tup (pv 0) pe_int (fun _ _ => rfl))) (blkOk_by (N := ["row", "lot", "word", "y"]) (sc := defScope sLotBehind) (by decide +kernel)) (fun _ _ _ _ _ => (pg_name (i := 3) scLotBehind.nd rfl (Or.inl rfl))) (fun _ _ _ _ _ => pts_nil) (fun _ _ _ _ _ => (pe_cmpR op_in_seq (pv 3) (pv 1) (by with_unfolding_all rfl)))) pa_nil)) pa_nil)))))) pss_nil)
    (pss_cons (ps_if (pt_cmpR op_eq (pv 2) pe_str (nomark _)) (pss_one (ps_ret (pcal C_with_name hr_with_name rfl (pa_cons (pv 1) (pa_cons (pe_ix ix_tup (pv 0) pe_int (fun _ _ => rfl)) (pa_cons (pe_cmpR op_in_seq (pe_ix ix_tup (pv 0) pe_int (fun _ _ => rfl)) (pv 1) (by with_unfolding_all rfl)) pa_nil)))))) pss_nil)
    (pss_cons (ps_if (pt_cmpR op_eq (pv 2) pe_str (nomark _)) (pss_one (ps_ret (pcal C_with_name hr_with_name rfl (pa_cons (pv 1) (pa_cons (pe_ix ix_tup (pv 0) pe_int (fun _ _ => rfl)) (pa_cons pe_bl pa_nil)))))) pss_nil)
    (pss_one (ps_ret (pv 1)))))))), ?_⟩
    obtain ⟨ra, tl, rfl, hrS, hrt⟩ := tr.rowI
    have inL : ∀ {x : Str}, x ∈ ys → inV (.str x) ((ys.filter S).map V.str) = S x := fun {x} hx => by
      rw [inV_strs]
      cases e : S x with
      | true => exact decide_eq_true (List.mem_filter.mpr ⟨hx, e⟩)
      | false =>
        refine decide_eq_false ?_
        intro z
        have h2 := (List.mem_filter.mp z).2
        rw [e] at h2
        cases h2
    have hfl := PM.flat_strs (ys.filter S)
    refine ⟨_, rfl, _, _, _, _, rfl, rfl, hrS, at0, ?_⟩
    refine ⟨_, rfl, _, _, rfl, .inr (hask _), rfl, rfl, _, rfl, ?_⟩
    show if inV (V.str (wordR r)) [V.str "ask", V.str "print"] = true then _ else _
    cases r with
    | ask x =>
      have hx : x ∈ ys := hn x List.mem_cons_self
      obtain ⟨v1, rfl, t1⟩ := hrt.one
      cases t1.strI
      refine ifB (show inV (V.str (Str.ofString "ask")) [V.str (Str.ofString "ask"), V.str (Str.ofString "print")] = true by decide +kernel) ⟨_, rfl, _, _, _, _, rfl, rfl, hrS, rfl, _, rfl, a, _, rfl, .inr hS, rfl, hfl, _, rfl, ?_⟩
      show if inV (.str x) ((ys.filter S).map V.str) = true then _ else _
      rw [inL hx]
      refine ite2 (fun e => k2 (by show (if S x = true then none else some S) = none; rw [if_pos e]) _ fun _ _ h => h) (fun e => ⟨_, rfl, k1 S (by show (if S x = true then none else some S) = some S; rw [if_neg e]) a _ (fun _ _ h => h) hS⟩)
    | prt x =>
      have hx : x ∈ ys := hn x List.mem_cons_self
      obtain ⟨v1, rfl, t1⟩ := hrt.one
      cases t1.strI
      refine ifB (show inV (V.str (Str.ofString "print")) [V.str (Str.ofString "ask"), V.str (Str.ofString "print")] = true by decide +kernel) ⟨_, rfl, _, _, _, _, rfl, rfl, hrS, rfl, _, rfl, a, _, rfl, .inr hS, rfl, hfl, _, rfl, ?_⟩
      show if inV (.str x) ((ys.filter S).map V.str) = true then _ else _
      rw [inL hx]
      refine ite2 (fun e => k2 (by show (if S x = true then none else some S) = none; rw [if_pos e]) _ fun _ _ h => h) (fun e => ⟨_, rfl, k1 S (by show (if S x = true then none else some S) = some S; rw [if_neg e]) a _ (fun _ _ h => h) hS⟩)
    | note x o ps =>
      have hx : x ∈ ys := hn x List.mem_cons_self
      obtain ⟨v1, v2, v3, rfl, t1, t2, t3⟩ := hrt.three
      cases t1.strI
      cases t2.strI
      obtain ⟨a3, xs3, rfl, hS3, ht3⟩ := t3.tupI
      have e3 := Tvs.strs ht3
      subst e3
      have hpl : ps.length ≤ 3 := by
        have : ps.length + 1 ≤ 4 := hl4
        omega
      refine ifBF (show inV (V.str (Str.ofString "note")) [V.str (Str.ofString "ask"), V.str (Str.ofString "print")] = false by decide +kernel) ⟨_, rfl, rfl, _, rfl, ifD rfl ?_⟩
      refine ⟨_, rfl, _, rfl, _, _, _, _, rfl, rfl, hrS, rfl, ?_⟩
      refine lc_into ?_
      refine ⟨_, rfl, _, _, _, _, rfl, rfl, hrS, rfl, a3, rfl, ⟨_, hS3⟩, ?_⟩
      refine lc_overA (p := none) (as := ps) (zs := ps.map V.str) (Rel := fun _ c y => y = .bl (S c)) it_tup ?_ (fun _ _ _ _ _ h => h) (fun _ h => nomatch h) ?_ (fun H' _ pt => pt.sq hS3) ?_ ?_
      · rw [List.length_map]
      · rw [List.length_map]
        exact Nat.lt_of_le_of_lt hpl (by decide)
      · intro j z y hz hy H3 kq pt3 R kR
        rw [List.getElem?_map, hy] at hz
        cases hz
        have hym : y ∈ ys := hn y (List.mem_cons_of_mem _ (List.mem_of_getElem? hy))
        refine ⟨rfl, _, rfl, _, rfl, a, _, rfl, .inr (pt3.sq hS), rfl, hfl, ?_⟩
        exact kR _ _ (Same.kq fun _ _ h => h) (Pt.refl _) (by rw [← inL hym]; rfl)
      · intro D zs H3 kq pt3 nD hD all
        have e := All2.map all
        subst e
        refine ⟨D, ps.map S, rfl, SqL.of (by rw [hD, List.map_map]; rfl), ?_⟩
        refine ⟨a, x, ps.any S, ys, S, ?_, n, pt3.sq hS, hx, fun q H4 s4 hq => k1 _ rfl q _ (kq.same.trans s4) hq⟩
        have e : (ps.map S).any id = ps.any S := by rw [List.any_map]; rfl
        rw [← e]
        rfl
    | copy x y =>
      have hx : x ∈ ys := hn x List.mem_cons_self
      have hy : y ∈ ys := hn y (List.mem_cons_of_mem _ List.mem_cons_self)
      obtain ⟨v1, v2, rfl, t1, t2⟩ := hrt.two
      cases t1.strI
      cases t2.strI
      refine ifBF (show inV (V.str (Str.ofString "copy")) [V.str (Str.ofString "ask"), V.str (Str.ofString "print")] = false by decide +kernel) ⟨_, rfl, rfl, _, rfl, ifDF (neS (a := "copy") (b := "note") (by decide +kernel)) ⟨_, rfl, rfl, _, rfl, ifD rfl ?_⟩⟩
      refine ⟨_, rfl, _, rfl, _, _, _, _, rfl, rfl, hrS, rfl, _, rfl, _, _, _, _, rfl, rfl, hrS, rfl, _, rfl, a, _, rfl, .inr hS, rfl, hfl, ?_⟩
      refine ⟨a, x, S y, ys, S, ?_, n, hS, hx, fun q H4 s4 hq => k1 _ rfl q _ s4 hq⟩
      rw [← inL hy]
      rfl
    | give x i =>
      have hx : x ∈ ys := hn x List.mem_cons_self
      obtain ⟨v1, v2, rfl, t1, t2⟩ := hrt.two
      cases t1.strI
      refine ifBF (show inV (V.str (Str.ofString "give")) [V.str (Str.ofString "ask"), V.str (Str.ofString "print")] = false by decide +kernel) ⟨_, rfl, rfl, _, rfl, ifDF (neS (a := "give") (b := "note") (by decide +kernel)) ⟨_, rfl, rfl, _, rfl, ifDF (neS (a := "give") (b := "copy") (by decide +kernel)) ⟨_, rfl, rfl, _, rfl, ifD rfl ?_⟩⟩⟩
      exact ⟨_, rfl, _, rfl, _, _, _, _, rfl, rfl, hrS, rfl, a, x, false, ys, S, rfl, n, hS, hx, fun q H4 s4 hq => k1 _ rfl q _ s4 hq⟩
    | either b1 b2 =>
      refine ifBF (show inV (V.str (Str.ofString "either")) [V.str (Str.ofString "ask"), V.str (Str.ofString "print")] = false by decide +kernel) ⟨_, rfl, rfl, _, rfl, ifDF (neS (a := "either") (b := "note") (by decide +kernel)) ⟨_, rfl, rfl, _, rfl, ifDF (neS (a := "either") (b := "copy") (by decide +kernel)) ⟨_, rfl, rfl, _, rfl, ifDF (neS (a := "either") (b := "give") (by decide +kernel)) ?_⟩⟩⟩
      exact ⟨_, rfl, k1 S rfl a _ (fun _ _ h => h) hS⟩
    | again b1 =>
      refine ifBF (show inV (V.str (Str.ofString "again")) [V.str (Str.ofString "ask"), V.str (Str.ofString "print")] = false by decide +kernel) ⟨_, rfl, rfl, _, rfl, ifDF (neS (a := "again") (b := "note") (by decide +kernel)) ⟨_, rfl, rfl, _, rfl, ifDF (neS (a := "again") (b := "copy") (by decide +kernel)) ⟨_, rfl, rfl, _, rfl, ifDF (neS (a := "again") (b := "give") (by decide +kernel)) ?_⟩⟩⟩
      exact ⟨_, rfl, k1 S rfl a _ (fun _ _ h => h) hS⟩
end
end K24
set_option Elab.async false
set_option linter.all false
set_option maxRecDepth 100000
set_option maxHeartbeats 4000000
namespace PM
open PySem PySem.Spec PyProof.Rows L2 ZX ZR
/-- a lot, judged: flat items that are just the names among them -/
def lotV (ys : List Str) (xs : List V) : Bool := decide (xs = (ys.filter fun y => decide (V.str y ∈ xs)).map V.str)
theorem mem_filt {ys : List Str} (S : Str → Bool) {y : Str} (hy : y ∈ ys) : decide (V.str y ∈ (ys.filter S).map V.str) = S y := by
  cases e : S y with
  | true => exact decide_eq_true (List.mem_map.mpr ⟨y, List.mem_filter.mpr ⟨hy, e⟩, rfl⟩)
  | false =>
    refine decide_eq_false ?_
    intro z
    obtain ⟨w, hw, ew⟩ := List.mem_map.mp z
    cases ew
    have h2 := (List.mem_filter.mp hw).2
    rw [e] at h2
    cases h2
theorem lotV_filt (ys : List Str) (S : Str → Bool) : lotV ys ((ys.filter S).map V.str) = true := by
  refine decide_eq_true ?_
  congr 1
  exact List.filter_congr fun y hy => (mem_filt S hy).symm
end PM
namespace K24
open PySem PySem.Spec PyProof.Rows L2 ZX PM ZR
abbrev sHolders : Stmt := top 45
/-- a class of errors without a field, as the walk asks of it -/
structure NoE (P : Program) (w : World) (K : PySem.W.Frag) (mg : Str → Option Value) (base : Heap) (nm : Str) (CN fI : Addr) (fd : FuncData) (ps : List Str) : Prop where
  T : OexC K CN
  iC : PySem.W.findIn K (.ref CN) "__init__" = some (some (.ref fI))
  tI : PySem.W.typeIn K (.ref fI) = some (.type "function")
  F1 : FnOk P w K mg base CX0 1 fI fd ps spP
  bd : Binds K fd ps []
  g : mg nm = some (.ref CN)
/-- what may stand for a lot -/
def LotTh (K : PySem.W.Frag) (H : Hp) (v : V) (ys : List Str) (r : Bool) : Prop :=
  (∃ t, TyX K H v t ∧ PySem.W.kitOne K t (.type "tuple") = some false ∧ r = false) ∨
  (∃ a xs, v = .ref a ∧ SqT K H a xs ∧ (∀ x ∈ xs, ItL K H x) ∧ xs.length ≤ 100000 ∧ r = lotV ys xs)
def spIsLot (K : PySem.W.Frag) : Sp := fun vs H Q _ => ∃ (m : Addr) (v : V) (ys : List Str) (r : Bool), vs = [.ref m, v] ∧ SqT K H m (ys.map V.str) ∧ Nms ys ∧ LotTh K H v ys r ∧ ∀ H', Same H H' → Q (.bl r) H'
def spHolders (K : PySem.W.Frag) (C : Addr) : Sp := fun vs H Q _ => ∃ (x wa la : Addr) (b : List Rw) (ys : List Str) (S : Str → Bool) (ps : List Nat) (q : Nat), vs = [.ref x, .ref wa, .ref la] ∧ PrAt K C H x b ∧ IsLot ys ((rowsB b).flatMap namesR) ∧ SqT K H wa (plV (ps ++ [q])) ∧ ps.length ≤ 50000 ∧ judge (leadsP b) ((ps ++ [q]).map fun (n : Nat) => (some (n : Int) : Option Int)) = true ∧ (∀ p ∈ ps, p < (rowsB b).length) ∧ SqT K H la ((ys.filter S).map V.str) ∧
  (∀ S', alongS (rowsB b) ps (some S) = some S' → ∀ q H', Same H H' → SqT K H' q ((ys.filter S').map V.str) → Q (.ref q) H') ∧ (alongS (rowsB b) ps (some S) = none → ∀ H', Same H H' → Q .non H')
section
variable {P : Program} {w : World} {K : PySem.W.Frag} {mg : Str → Option Value} {base : Heap}
theorem alongS_none (rows : List Rw) : ∀ ps : List Nat, alongS rows ps none = none
  | [] => rfl
  | _ :: ps => alongS_none rows ps
theorem itm_ints {K : PySem.W.Frag} {H : Hp} : ∀ ns : List Nat, All2 (Itm K H) (plV ns) (ns.map fun (n : Nat) => (some (n : Int) : Option Int))
  | [] => .nil
  | n :: ns => .cons (.int (n : Int)) (itm_ints ns)
theorem scHolders : FnScope ["program", "way", "lot", "place"] ["program", "way", "lot"] (defScope sHolders) := ⟨rfl, rfl, rfl, by decide +kernel, rfl, by decide +kernel, by decide +kernel⟩
theorem ok_holders {C CN CW CL fW fL f : Addr} {fdW fdL fd : FuncData} {psW psL : List Str} (F : FnP K "holders" sHolders f fd) (T : Bi mg) (c : PrC K C) (NW : NoE P w K mg base "NoWay" CW fW fdW psW) (NL : NoE P w K mg base "NoLot" CL fL fdL psL) (C_is_way : Cal P w K mg base "is_way" 3 ["program", "thing"] (spIsWay K C)) (C_is_lot : Cal P w K mg base "is_lot" 1 ["members", "thing"] (spIsLot K)) (C_names : Cal P w K mg base "names" 1 ["program"] (spNames K C)) (C_lot_behind : Cal P w K mg base "lot_behind" 2 ["row", "lot"] (spLotBehind K)) (C_row_at : CalX P w K mg base "row_at" 3 ["program", "place"] (spRowAt K C CN)) :
    FnOk P w K mg base (L2.CX P w) 4 f fd ["program", "way", "lot"] (spHolders K C) := by
  refine F.ok scHolders (fun vs H Q E h => ?_) (fun cdv A outer s H vs Q E hr h => ?_)
  · obtain ⟨x, wa, la, b, ys, S, ps, q, rfl, _⟩ := h
    rfl
  · obtain ⟨x, wa, la, b, ys, S, ps, q, rfl, hp, hlot, hw, hpl, hj, hlt, hS, k1, k2⟩ := h
    have hr3 := hr
    have hr1 := hr.mono (show 1 ≤ 3 by decide)
    have hr2 := hr.mono (show 2 ≤ 3 by decide)
    refine ⟨_, (pss_cons (ps_if (pt_not (pt_val (pcal C_is_way hr3 rfl (pa_cons (pv 0) (pa_cons (pv 1) pa_nil))))) (pss_one (ps_raise rfl (takes_of rfl rfl rfl rfl) (pmk_ret rfl (pe_oexN NW.T NW.iC NW.tI NW.F1 (fun _ _ _ _ _ m h => by obtain ⟨a, e, q⟩ := h; exact ⟨a, e, m _ _ q⟩) (hr.mono (by decide)) NW.bd rfl NW.g)))) pss_nil)
    (pss_cons (ps_if (pt_not (pt_val (pcal C_is_lot hr1 rfl (pa_cons (pcal C_names hr1 rfl (pa_cons (pv 0) pa_nil)) (pa_cons (pv 2) pa_nil))))) (pss_one (ps_raise rfl (takes_of rfl rfl rfl rfl) (pmk_ret rfl (pe_oexN NL.T NL.iC NL.tI NL.F1 (fun _ _ _ _ _ m h => by obtain ⟨a, e, q⟩ := h; exact ⟨a, e, m _ _ q⟩) (hr.mono (by decide)) NL.bd rfl NL.g)))) pss_nil)
    (PSs.nox (pss_cons (ps_for PassesOwn.never rfl (pi_tup (pe_slice sl_tupZ (pv 1) po_none (po_some (pe_un un_neg pe_int)))) (pg_name (i := 3) scHolders.nd rfl (Or.inl rfl)) (pss_cons (ps_set (i := 2) scHolders.nd rfl (Or.inl rfl) (pcal C_lot_behind hr2 rfl (pa_cons (pcalN C_row_at hr3 rfl (pa_cons (pv 0) (pa_cons (pv 3) pa_nil))) (pa_cons (pv 2) pa_nil))))
      (pss_one (ps_if (pt_cmpR op_isN (pv 2) pe_non (nomark _)) (pss_one (ps_ret pe_non)) pss_nil))))
    (pss_one (ps_ret (pv 2))))))), ?_⟩
    have hn : Nms ys := by
      obtain ⟨dx, v, ra, na, la', rs, ls, yn, hx, tv, G, _⟩ := hp
      exact ⟨hlot.so, hlot.nd, G.n8 ys hlot⟩
    have hG : Good b := by
      obtain ⟨dx, v, ra, na, la', rs, ls, yn, hx, tv, G, _⟩ := hp
      exact G
    have hwl : (plV (ps ++ [q])).length ≤ 100000 := by
      unfold plV
      rw [List.length_map, List.length_append]
      show ps.length + 1 ≤ 100000
      omega
    refine ⟨_, rfl, _, rfl, x, _, b, rfl, hp, .inr ⟨wa, _, _, rfl, hw, itm_ints _, hwl, fun H1 s1 => ?_⟩⟩
    rw [hj]
    refine ⟨_, rfl, ?_⟩
    have hp1 := hp.same s1
    refine ⟨_, rfl, x, b, rfl, hp1, fun t ys' hlot' ht => ?_⟩
    have ey : ys' = ys := hlot'.uniq hlot fun _ => Iff.rfl
    subst ey
    refine ⟨_, rfl, t, _, ys', true, rfl, ht, hn, .inr ⟨la, _, rfl, s1.pt.sq hS, (fun z hz => by obtain ⟨w, _, rfl⟩ := List.mem_map.mp hz; exact .inl rfl), ?_, (lotV_filt ys' S).symm⟩, fun H2 s2 => ⟨_, rfl, ?_⟩⟩
    · rw [List.length_map]
      have := List.length_filter_le S ys'
      have := hn.l8
      omega
    have s12 := s1.trans s2
    refine ⟨_, rfl, _, rfl, _, rfl, wa, _, rfl, s12.pt.sq hw, fun wc H3 s3 hwc => ?_⟩
    rw [plV_app, show plV [q] = [V.int (q : Nat)] from rfl, cut_init] at hwc
    have s13 := s12.trans s3
    refine ⟨wc, rfl, ⟨_, hwc⟩, ?_⟩
    refine for_tup (xs := plV ps) (fun i σ' H' => ∃ (lc : Addr) (S' : Str → Bool) (y : Option V), σ' = [some (.ref x), some (.ref wa), some (.ref lc), y] ∧ Same H H' ∧ SqT K H' wc (plV ps) ∧ SqT K H' lc ((ys'.filter S').map V.str) ∧ alongS (rowsB b) (ps.take i) (some S) = some S') ⟨la, S, _, rfl, s13, hwc, s13.pt.sq hS, rfl⟩ ?_ ?_ ?_
    · rintro i σ' H' _ ⟨_, _, _, _, _, h, _⟩
      exact h
    · rintro i z σ' H' hz ⟨lc, S', y, rfl, sm, hwc', hlc, ha⟩
      obtain ⟨p, hpp, rfl⟩ : ∃ p, ps[i]? = some p ∧ z = V.int (p : Nat) := by
        unfold plV at hz
        rw [List.getElem?_map] at hz
        cases e : ps[i]? with
        | none => rw [e] at hz; cases hz
        | some p => rw [e] at hz; exact ⟨p, rfl, (Option.some.inj hz).symm⟩
      have hpl2 := hlt p (List.mem_of_getElem? hpp)
      have hr0 : (rowsB b)[p]? = some (rowsB b)[p] := List.getElem?_eq_getElem hpl2
      have etk : ps.take (i + 1) = ps.take i ++ [p] := by
        rw [List.take_succ, hpp]
        rfl
      have hrm : (rowsB b)[p] ∈ rowsB b := List.getElem_mem hpl2
      have eal : alongS (rowsB b) (ps.take (i + 1)) (some S) = moveS (rowsB b)[p] S' := by
        rw [etk, alongS_snoc, ha, hr0]
        rfl
      refine ⟨_, rfl, _, rfl, x, _, b, rfl, hp.same sm, .inl ⟨p, _, rfl, hr0, fun u hu => ?_⟩⟩
      refine ⟨_, rfl, u, (rowsB b)[p], lc, ys', S', rfl, hu, hn, hlc, names_mem (fun z hz => (hlot.me z).mpr hz) hrm, ok_names_B hG.ok _ hrm, fun S2 e2 q2 H4 s4 hq2 => ?_, fun e2 H4 s4 => ?_⟩
      · refine ⟨_, rfl, rfl, _, rfl, ifBF rfl ⟨q2, S2, _, rfl, sm.trans s4, s4.pt.sq hwc', hq2, by rw [eal]; exact e2⟩⟩
      · refine ⟨_, rfl, rfl, _, rfl, ifB rfl ?_⟩
        refine k2 ?_ _ (sm.trans s4)
        have esp : ps = ps.take (i + 1) ++ ps.drop (i + 1) := (List.take_append_drop _ _).symm
        have app : ∀ (as bs : List Nat) (o : Option (Str → Bool)), alongS (rowsB b) (as ++ bs) o = alongS (rowsB b) bs (alongS (rowsB b) as o) := fun as => by
          induction as with
          | nil => intro bs o; rfl
          | cons a as ih => intro bs o; exact ih bs _
        rw [esp, app, eal, e2, alongS_none]
    · rintro σ' H' ⟨lc, S', y, rfl, sm, hwc', hlc, ha⟩
      have e : (plV ps).length = ps.length := List.length_map ..
      rw [e, List.take_length] at ha
      exact ⟨_, rfl, k1 S' ha lc H' sm hlc⟩
end
end K24
set_option Elab.async false
set_option linter.all false
set_option maxRecDepth 100000
set_option maxHeartbeats 4000000
namespace K24
open PySem PySem.Spec PyProof.Rows L2 ZX PM ZR
abbrev sIsLot : Stmt := top 24
def isBl : V → Bool
  | .bl _ => true
  | _ => false
def isSt : V → Bool
  | .str _ => true
  | _ => false
theorem tyL {K : PySem.W.Frag} {H : Hp} {a : Addr} {xs : List V} (h : SqL K H a xs) : TyX K H (.ref a) (.type "list") := by
  rcases h with (h | ⟨o, h⟩) | ⟨o, its, n, h, c, _⟩
  · exact .base (.lst h)
  · exact .base (.frz h)
  · exact .kList h c
/-- the kind of an item -/
theorem itl_ty {K : PySem.W.Frag} {H : Hp} {v : V} (h : ItL K H v) : ∃ t, TyX K H v t ∧ PySem.W.kitOne K t (.type "bool") = some (isBl v) ∧ PySem.W.kitOne K t (.type "str") = some (isSt v) := by
  rcases h with h | h
  · cases v with
    | non => exact ⟨_, .base .non, rfl, rfl⟩
    | bl b => exact ⟨_, .base (.bl b), rfl, rfl⟩
    | int i => exact ⟨_, .base (.int i), rfl, rfl⟩
    | str x => exact ⟨_, .base (.str x), rfl, rfl⟩
    | _ => cases h
  · cases h with
    | lst h => exact ⟨_, tyL h, rfl, rfl⟩
    | tup h => exact ⟨_, tyT h, rfl, rfl⟩
    | dic h => exact ⟨_, .base (.dK h), rfl, rfl⟩
theorem _root_.ZR.ItL.same {K : PySem.W.Frag} {H H' : Hp} {v : V} (h : ItL K H v) (s : Same H H') : ItL K H' v := by
  rcases h with h | h
  · exact .inl h
  · cases h with
    | @lst a xs h =>
      refine .inr (.lst (xs := xs) ?_)
      rcases h with (h | ⟨o, h⟩) | h
      · exact .inl (.inl (s _ _ h))
      · exact .inl (.inr ⟨o, s _ _ h⟩)
      · exact .inr h
    | tup h => exact .inr (.tup (s.pt.sq h))
    | dic h => exact .inr (.dic (s _ _ h))
section
variable {P : Program} {w : World} {K : PySem.W.Frag} {mg : Str → Option Value} {base : Heap}
theorem scIsLot : FnScope ["members", "thing", "item", "member"] ["members", "thing"] (defScope sIsLot) := ⟨rfl, rfl, rfl, by decide +kernel, rfl, by decide +kernel, by decide +kernel⟩
theorem ok_is_lot {f : Addr} {fd : FuncData} (F : FnP K "is_lot" sIsLot f fd) (T : Bi mg) (bany : mg "any" = none) (bbool : mg "bool" = none) : FnOk P w K mg base CX0 1 f fd ["members", "thing"] (spIsLot K) := by
  refine F.ok scIsLot (fun vs H Q E h => ?_) (fun cdv A outer s H vs Q E hr h => ?_)
  · obtain ⟨m, v, ys, r, rfl, _⟩ := h
    rfl
  · obtain ⟨m, v, ys, r, rfl, hm, n, hv, k⟩ := h
    have hu := hu_of hr
    refine ⟨_, PSs.nox (pss_cons (ps_if (PW.pt (pw_or (pt_not (pt_val (pe_callB call_isi (by rfl) T.b_isinstance (by decide +kernel) (pa_cons (pv 1) (pa_cons (pe_bltn (v := .ty "tuple") (by rfl) T.b_tuple (by decide +kernel) rfl) pa_nil))))) (pw_or1 (pt_val (pe_callB (cr_any rfl) (by rfl) bany (by decide +kernel) (pa_cons (pe_lcS (own := [("item", 2)]) (g := gName 2) (tt := tYes) (te := tCB (rIsi K) (tCons (tVar 2) (tCons (tC (V.ty "bool")) tNil))) (by rfl) scIsLot.nd (pi_tup (pv 1)) (blkOk_by (N := ["members", "thing", "item", "member"]) (sc := defScope sIsLot) (by decide +kernel)) (fun _ _ _ _ _ => (pg_name (i := 2) scIsLot.nd rfl (Or.inl rfl))) (fun _ _ _ _ _ => pts_nil) (fun _ _ _ _ _ => (pe_callB (id := "isinstance") (r := rIsi K) call_isi (by rfl) T.b_isinstance (by decide +kernel) (pa_cons (pv 2) (pa_cons (pe_bltn (v := .ty "bool") (by rfl) bbool (by decide +kernel) rfl) pa_nil))))) pa_nil)))))) (pss_one (ps_ret pe_bl)) pss_nil)
    (pss_one (ps_ret (pe_cmpR (op_eqL hu) (pv 1) (pe_callTy call_tuple_of (by rfl) T.b_tuple (by decide +kernel) (pa_cons (pe_lcS (own := [("member", 3)]) (g := gName 3) (tt := tTest (tOp (rInL K) (tVar 3) (tVar 1))) (by rfl) scIsLot.nd (pi_tup (pv 0)) (blkOk_by (N := ["members", "thing", "item", "member"]) (sc := defScope sIsLot) (by decide +kernel)) (fun _ _ _ _ _ => (pg_name (i := 3) scIsLot.nd rfl (Or.inl rfl))) (fun _ _ _ _ _ => (pts_one (pt_cmpR (op_inL hu) (pv 3) (pv 1) (by with_unfolding_all rfl)))) (fun _ _ _ _ _ => (pv 3))) pa_nil)) (nomark _))))), ?_⟩
    rcases hv with ⟨t, ht, e, rfl⟩ | ⟨a, xs, rfl, ha, hi, hl, rfl⟩
    · exact ⟨_, rfl, _, _, _, _, false, rfl, .ty "tuple", ht, e, false, rfl, k _ (fun _ _ h => h)⟩
    · refine ⟨_, rfl, _, _, _, _, true, rfl, .ty "tuple", tyT ha, rfl, true, rfl, ?_⟩
      refine lc_into ?_
      refine ⟨_, rfl, a, rfl, ⟨_, ha⟩, ?_⟩
      have mv : ∀ {H' : Hp}, Same H H' → ∀ x ∈ xs, ItL K H' x := fun s x hx => (hi x hx).same s
      refine lc_overA (p := none) (as := xs) (zs := xs) (Rel := fun _ c y => y = .bl (isBl c)) it_tup rfl (fun _ _ _ _ _ h => h) (fun _ h => nomatch h) (Nat.lt_of_le_of_lt hl (by decide)) (fun H' _ pt => pt.sq ha) ?_ ?_
      · intro j z y hz hy H3 kq pt3 R kR
        rw [hz] at hy
        cases hy
        obtain ⟨t, ht, hb, _⟩ := itl_ty (mv kq.same z (List.mem_of_getElem? hz))
        exact ⟨rfl, _, rfl, _, _, _, _, isBl z, rfl, .ty "bool", ht, hb, kR _ _ (Same.kq fun _ _ h => h) (Pt.refl _) rfl⟩
      · intro D zs H3 kq pt3 nD hD all
        have e := All2.map all
        subst e
        refine ⟨D, xs.map isBl, rfl, SqL.of (by rw [hD, List.map_map]; rfl), ?_⟩
        have s3 := kq.same
        refine ⟨_, rfl, ?_⟩
        cases hb : (xs.map isBl).any id with
        | true =>
          refine ifB rfl ?_
          have e : lotV ys xs = false := by
            refine decide_eq_false ?_
            intro z
            obtain ⟨q, hq, e⟩ := List.any_eq_true.mp hb
            obtain ⟨v, hv, rfl⟩ := List.mem_map.mp hq
            rw [z] at hv
            obtain ⟨w, _, rfl⟩ := List.mem_map.mp hv
            cases e
          rw [e] at k
          exact k _ s3
        | false =>
          refine ifBF rfl ?_
          refine ⟨_, rfl, ?_⟩
          refine lc_into ?_
          refine ⟨_, rfl, m, rfl, ⟨_, s3.pt.sq hm⟩, ?_⟩
          have l8 := n.l8
          refine lc_overF (as := ys) (Rel := fun _ c y => y = .str c) (fun y => decide (V.str y ∈ xs)) it_tup ?_ (fun _ _ _ _ _ h => h) ?_ (fun H' _ pt => pt.sq (s3.pt.sq hm)) ?_ ?_
          · rw [List.length_map]
          · rw [List.length_map]
            exact Nat.lt_of_le_of_lt l8 (by decide)
          · intro j z y hz hy H4 s4 pt4 R N kR kN
            rw [List.getElem?_map, hy] at hz
            cases hz
            refine ⟨rfl, _, rfl, _, rfl, y, a, xs, rfl, rfl, (s3.trans s4).pt.sq ha, mv (s3.trans s4), _, rfl, ?_⟩
            exact ite2 (fun e => ⟨_, rfl, kR e _ _ (fun _ _ h => h) rfl⟩) (fun e => kN (Bool.eq_false_iff.mpr e) _ fun _ _ h => h)
          · intro D2 zs H4 s4 pt4 nD2 hD2 all2
            have e := All2.map all2
            subst e
            have s34 := s3.trans s4
            refine ⟨D2, _, rfl, .inl ⟨SqL.of hD2, fun u nu => ?_⟩⟩
            have su := same_new (o := .tup ((ys.filter fun y => decide (V.str y ∈ xs)).map V.str)) nu
            exact ⟨a, u, xs, _, rfl, rfl, (s34.trans su).pt.sq ha, .inl (.inl upd_same), mv (s34.trans su), k _ (s34.trans su)⟩
end
end K24
set_option Elab.async false
set_option linter.all false
set_option maxRecDepth 100000
set_option maxHeartbeats 4000000
namespace PM
open PySem PySem.Spec PyProof.Rows L2 ZX ZR
/-- a way that is one -/
theorem judge_way {b : List Rw} {cs : List (Option Int)} (h : judge (leadsP b) cs = true) : ∃ ps q, cs = (ps ++ [q]).map (fun (n : Nat) => (some (n : Int) : Option Int)) ∧ (∀ p ∈ ps, p < (rowsB b).length) ∧ q ≤ (rowsB b).length := by
  obtain ⟨h1, h2⟩ := Bool.and_eq_true_iff.mp h
  obtain ⟨h2, h3⟩ := Bool.and_eq_true_iff.mp h2
  have hcs : cs = (cs.map natOf).map (fun (n : Nat) => (some (n : Int) : Option Int)) := by
    rw [List.map_map]
    refine List.ext_getElem? fun k => ?_
    rw [List.getElem?_map]
    cases e : cs[k]? with
    | none => rfl
    | some c =>
      obtain ⟨m, rfl, _, _⟩ := inR_all h2 e
      rfl
  have hne : cs.map natOf ≠ [] := fun e => by
    have := List.map_eq_nil_iff.mp e
    rw [this] at h1
    cases h1
  have hlen : (cs.map natOf).length = cs.length := List.length_map ..
  obtain ⟨ps, q, e⟩ : ∃ ps q, cs.map natOf = ps ++ [q] := (snoc_or _).resolve_left hne
  have at_lt : ∀ (k n : Nat), (ps ++ [q])[k]? = some n → n < (leadsP b).length := fun k n hk => by
    rw [← e, List.getElem?_map] at hk
    cases ec : cs[k]? with
    | none => rw [ec] at hk; cases hk
    | some c =>
      obtain ⟨m, rfl, hm, _⟩ := inR_all h2 ec
      rw [ec] at hk
      cases hk
      exact hm
  refine ⟨ps, q, by rw [← e]; exact hcs, fun p hp => ?_, ?_⟩
  · obtain ⟨k, hk, rfl⟩ := List.mem_iff_getElem.mp hp
    have hkl : k < cs.length - 1 := by
      rw [← hlen, e, List.length_append]
      show k < ps.length + 1 - 1
      omega
    have hs : stepB (leadsP b) (cs.map natOf) k = true := by
      have := List.all_eq_true.mp h3 _ (List.mem_map.mpr ⟨k, List.mem_range.mpr hkl, rfl⟩)
      exact this
    have hs' := of_decide_eq_true hs
    rw [e] at hs'
    have eg : (ps ++ [q]).getD k 0 = ps[k] := by
      rw [List.getD_eq_getElem?_getD, List.getElem?_append_left hk, List.getElem?_eq_getElem hk]
      rfl
    rw [eg] at hs'
    refine Nat.lt_of_not_le fun hle => ?_
    have : (leadsP b).getD ps[k] [] = [] := by
      rw [List.getD_eq_getElem?_getD]
      unfold leadsP
      rw [List.getElem?_append_right (by rw [leadsB_len]; exact hle), leadsB_len]
      cases e2 : ps[k] - (rowsB b).length with
      | zero => rfl
      | succ n => simp
    rw [this] at hs'
    cases hs'
  · have := at_lt ps.length q (by simp)
    rw [leadsP_len] at this
    omega
/-- all names of such rows are right -/
theorem nm_okR {d : Nat} {r : Rw} (h : okR d r) (x : Str) (hx : x ∈ namesR r) : NameOk x := by
  cases r with
  | note y o ps =>
    rcases List.mem_cons.mp hx with rfl | hx
    · exact h.1
    · exact h.2.2.2 x hx
  | copy y z =>
    simp [namesR] at hx
    rcases hx with rfl | rfl
    · exact h.1
    · exact h.2
  | give y i =>
    simp [namesR] at hx
    subst hx
    exact h
  | ask y =>
    simp [namesR] at hx
    subst hx
    exact h
  | prt y =>
    simp [namesR] at hx
    subst hx
    exact h
  | either a b => cases hx
  | again a => cases hx
mutual
theorem rows_okR : ∀ {d : Nat} {r : Rw}, okR d r → ∀ s ∈ rowsR r, ∃ e, okR e s
  | d, .either a b, h, s, hs => by
    have hs' : s ∈ Rw.either a b :: (rowsB a ++ rowsB b) := hs
    rcases List.mem_cons.mp hs' with rfl | hs
    · exact ⟨d, h⟩
    · rcases List.mem_append.mp hs with hs | hs
      · exact rows_okB h.2.2.2.1 s hs
      · exact rows_okB h.2.2.2.2 s hs
  | d, .again a, h, s, hs => by
    have hs' : s ∈ Rw.again a :: rowsB a := hs
    rcases List.mem_cons.mp hs' with rfl | hs
    · exact ⟨d, h⟩
    · exact rows_okB h.2.2 s hs
  | d, .note x o ps, h, s, hs => by
    rw [List.mem_singleton.mp (show s ∈ [Rw.note x o ps] from hs)]
    exact ⟨d, h⟩
  | d, .copy x y, h, s, hs => by
    rw [List.mem_singleton.mp (show s ∈ [Rw.copy x y] from hs)]
    exact ⟨d, h⟩
  | d, .give x i, h, s, hs => by
    rw [List.mem_singleton.mp (show s ∈ [Rw.give x i] from hs)]
    exact ⟨d, h⟩
  | d, .ask x, h, s, hs => by
    rw [List.mem_singleton.mp (show s ∈ [Rw.ask x] from hs)]
    exact ⟨d, h⟩
  | d, .prt x, h, s, hs => by
    rw [List.mem_singleton.mp (show s ∈ [Rw.prt x] from hs)]
    exact ⟨d, h⟩
theorem rows_okB : ∀ {d : Nat} {b : List Rw}, okB d b → ∀ s ∈ rowsB b, ∃ e, okR e s
  | _, [], _, _, hs => nomatch hs
  | d, r :: b, h, s, hs => by
    rcases List.mem_append.mp (show s ∈ rowsR r ++ rowsB b from hs) with hs | hs
    · exact rows_okR h.1 s hs
    · exact rows_okB h.2 s hs
end
theorem nm_lot {b : List Rw} {ys : List Str} {d : Nat} (h : okB d b) (l : IsLot ys ((rowsB b).flatMap namesR)) : ∀ y ∈ ys, NameOk y := fun y hy => by
  obtain ⟨r, hr, hx⟩ := List.mem_flatMap.mp ((l.me y).mp hy)
  obtain ⟨e, he⟩ := rows_okB h r hr
  exact nm_okR he y hx
/-- the last two -/
def last2 (ns : List Nat) : List Nat := ns.drop (ns.length - 2)
/-- the same names -/
def sameO (ys : List Str) (o : Option (Str → Bool)) (S : Str → Bool) : Bool := match o with
  | some S' => decide (ys.filter S' = ys.filter S)
  | none => false
/-- a ring of a way and a lot that are such -/
def ringN (b : List Rw) (ys : List Str) (i : Nat) (ps : List Nat) (q : Nat) (S : Str → Bool) : Bool := match (rowsB b)[i]?, (leadsB b 0 (rowsB b).length)[i]? with
  | some (.note x _ _), some (g :: _) => !(ys.filter S).isEmpty && (decide ((ps ++ [q]).head? = some g) && (decide (last2 (ps ++ [q]) = [i, g]) && (sameO ys (alongS (rowsB b) ps (some fun z => decide (z = x))) S && sameO ys (alongS (rowsB b) ps (some S)) S)))
  | _, _ => false
theorem ringN_note {b : List Rw} {ys : List Str} {i : Nat} {ps : List Nat} {q : Nat} {S : Str → Bool} {x o : Str} {ns : List Str} {g : Nat} (h1 : (rowsB b)[i]? = some (.note x o ns)) (h2 : (leadsB b 0 (rowsB b).length)[i]? = some [g]) :
    ringN b ys i ps q S = (!(ys.filter S).isEmpty && (decide ((ps ++ [q]).head? = some g) && (decide (last2 (ps ++ [q]) = [i, g]) && (sameO ys (alongS (rowsB b) ps (some fun z => decide (z = x))) S && sameO ys (alongS (rowsB b) ps (some S)) S)))) := by
  unfold ringN
  rw [h1, h2]
theorem ringN_not {b : List Rw} {ys : List Str} {i : Nat} {ps : List Nat} {q : Nat} {S : Str → Bool} {r : Rw} (h1 : (rowsB b)[i]? = some r) (h : wordR r ≠ Str.ofString "note") : ringN b ys i ps q S = false := by
  unfold ringN
  rw [h1]
  cases r with
  | note x o ns => exact absurd rfl h
  | _ => rfl
theorem filt_one {ys : List Str} {x : Str} (nd : ys.Nodup) (hx : x ∈ ys) : ys.filter (fun z => decide (z = x)) = [x] := by
  induction ys with
  | nil => cases hx
  | cons y ys ih =>
    have hd := List.nodup_cons.mp nd
    rw [List.filter_cons]
    by_cases e : y = x
    · subst e
      rw [if_pos (by simp)]
      congr 1
      rw [List.filter_eq_nil_iff]
      intro z hz
      simp
      intro e
      exact hd.1 (e ▸ hz)
    · rw [if_neg (by simp [e])]
      exact ih hd.2 ((List.mem_cons.mp hx).resolve_left fun q => e q.symm)
end PM
set_option Elab.async false
set_option linter.all false
set_option maxRecDepth 100000
set_option maxHeartbeats 4000000
/-! go_to, told. -/
namespace PM
open PySem PySem.Spec PyProof.Rows L2 ZX ZR
/-- a way done, place by place, from the place p on -/
inductive RunS {P : Program} {w : World} {K : PySem.W.Frag} {mg : Str → Option Value} {base : Heap} (fm : Fam P w K mg base) (b : List Rw) : NS → fm.L → Nat → List Nat → NS → fm.L → Prop
  | done {S : NS} {l : fm.L} {p : Nat} : RunS fm b S l p [] S l
  | step {S S1 S2 : NS} {l l1 l2 : fm.L} {p n : Nat} {ls : List Nat} {r : Rw} {rest : List Nat} (hl : (leadsP b)[p]? = some ls) (hn : n ∈ ls) (hr : (rowsB b)[p]? = some r) (hd : DoS fm S l r S1 l1) (h : RunS fm b { S1 with trail := S.trail ++ [markS S r] } l1 n rest S2 l2) : RunS fm b S l p (n :: rest) S2 l2
/-- a real way from the place p on -/
inductive WayP (b : List Rw) : Nat → List Nat → Prop
  | done {p : Nat} : WayP b p []
  | step {p n : Nat} {ls : List Nat} {r : Rw} {rest : List Nat} (hl : (leadsP b)[p]? = some ls) (hn : n ∈ ls) (hr : (rowsB b)[p]? = some r) (h : WayP b n rest) : WayP b p (n :: rest)
theorem first_at {n : Nat} : ∀ {ls : List Nat}, n ∈ ls → ∃ j : Nat, ls[j]? = some n ∧ ∀ m : Nat, m < j → ls[m]? ≠ some n
  | a :: ls, h => by
    by_cases e : a = n
    · subst e
      exact ⟨0, rfl, fun m hm => absurd hm (Nat.not_lt_zero m)⟩
    · obtain ⟨j, h1, h2⟩ := first_at ((List.mem_cons.mp h).resolve_left fun z => e z.symm)
      refine ⟨j + 1, h1, fun m hm => ?_⟩
      cases m with
      | zero => intro z; cases z; exact e rfl
      | succ m => exact h2 m (Nat.lt_of_succ_lt_succ hm)
  | [], h => nomatch h
theorem leadsP_at {b : List Rw} {p : Nat} {ls : List Nat} (h : (leadsP b)[p]? = some ls) (hp : p < (rowsB b).length) : ∀ n ∈ ls, n ≤ (rowsB b).length := fun n hn => by
  unfold leadsP at h
  rw [List.getElem?_append_left (by rw [leadsB_len]; exact hp)] at h
  have := leadsB_le _ _ _ _ (List.mem_of_getElem? h) n hn
  omega
theorem wayP_judge {b : List Rw} {p : Nat} {rest : List Nat} (h : WayP b p rest) : p ≤ (rowsB b).length → judge (leadsP b) ((p :: rest).map fun (n : Nat) => (some (n : Int) : Option Int)) = true := by
  intro hp
  have key : ((((p :: rest).map fun (n : Nat) => (some (n : Int) : Option Int)).map (inRg (leadsP b).length)).all id = true) ∧ ∀ k, k < rest.length → stepB (leadsP b) (p :: rest) k = true := by
    induction h with
    | @done p =>
      refine ⟨?_, fun k hk => absurd hk (Nat.not_lt_zero k)⟩
      show ((decide ((0 : Int) ≤ (p : Int)) && decide ((p : Int) < ((leadsP b).length : Int))) && true) = true
      rw [leadsP_len, decide_eq_true (by omega), decide_eq_true (by omega)]
      rfl
    | @step p n ls r rest hl hn hr h ih =>
      have hpr : p < (rowsB b).length := (List.getElem?_eq_some_iff.mp hr).1
      obtain ⟨i1, i2⟩ := ih (leadsP_at hl hpr n hn)
      refine ⟨?_, fun k hk => ?_⟩
      · show ((decide ((0 : Int) ≤ (p : Int)) && decide ((p : Int) < ((leadsP b).length : Int))) && (((n :: rest).map fun (n : Nat) => (some (n : Int) : Option Int)).map (inRg (leadsP b).length)).all id) = true
        rw [i1, leadsP_len, decide_eq_true (by omega), decide_eq_true (by omega)]
        rfl
      · cases k with
        | zero =>
          refine decide_eq_true ?_
          show n ∈ (leadsP b).getD p []
          rw [List.getD_eq_getElem?_getD, hl]
          exact hn
        | succ k => exact i2 k (Nat.lt_of_succ_lt_succ hk)
  unfold judge
  rw [key.1]
  have e : ((p :: rest).map fun (n : Nat) => (some (n : Int) : Option Int)).map natOf = p :: rest := by
    rw [List.map_map]
    exact List.map_id _
  rw [e, List.length_map]
  show (true && (true && _)) = true
  rw [Bool.true_and, Bool.true_and, List.all_eq_true]
  intro x hx
  obtain ⟨k, hk, rfl⟩ := List.mem_map.mp hx
  exact key.2 k (by have := List.mem_range.mp hk; exact this)
section
variable {P : Program} {w : World} {K : PySem.W.Frag} {mg : Str → Option Value} {base : Heap} {fm : Fam P w K mg base} {S S' : NS} {l l' : fm.L} {r : Rw}
theorem DoS.sizes (h : DoS fm S l r S' l') : S'.made.length ≤ S.made.length + 1 ∧ S'.printed.length ≤ S.printed.length + 1 := by
  cases h <;> refine ⟨?_, ?_⟩ <;> first | exact Nat.le_refl _ | exact Nat.le_succ _ | (show (_ ++ [_]).length ≤ _; rw [List.length_append]; exact Nat.le_refl _)
end
end PM
namespace K24
open PySem PySem.Spec PyProof.Rows L2 ZX PM ZR
abbrev sGoTo : Stmt := top 56
abbrev sTold : Stmt := top 55
section
variable {P : Program} {w : World} {K : PySem.W.Frag} {mg : Str → Option Value} {base : Heap} {CP CN CR : Addr}
def spGoTo (P : Program) (w : World) (K : PySem.W.Frag) (mg : Str → Option Value) (base : Heap) (CP CN CR : Addr) : Sp := fun vs H Q _ => ∃ (fm : Fam P w K mg base) (F : List (Str × Addr)) (ns : List Str) (x : Addr) (A : Ad) (S : NS) (l : fm.L) (px : Addr) (b : List Rw) (wa : Addr) (way : List Nat) (p n : Nat) (ls : List Nat) (r : Rw), vs = [.ref x, .int (n : Nat)] ∧
  RnAt fm CP CN CR F ns H x A S l px b wa (way ++ [p]) ∧ (leadsP b)[p]? = some ls ∧ n ∈ ls ∧ (rowsB b)[p]? = some r ∧ S.made.length < 50000 ∧ S.printed.length < 50000 ∧ S.trail.length < 50000 ∧ way.length < 50000 ∧
  ∀ S' l' H', Fz (wa :: (A.own ++ fm.out)) H H' → RnAt fm CP CN CR F ns H' x A { S' with trail := S.trail ++ [markS S r] } l' px b wa (way ++ [p] ++ [n]) → DoS fm S l r S' l' → Q .non H'
theorem scGoTo : FnScope ["run", "place"] ["run", "place"] (defScope sGoTo) := ⟨rfl, rfl, rfl, by decide +kernel, rfl, by decide +kernel, by decide +kernel⟩
theorem ok_go_to {CE f : Addr} {fd : FuncData} (FD : FnP K "go_to" sGoTo f fd) (c : RnC K CR) (C_nexts : CalX P w K mg base "nexts" 3 ["program", "place"] (spNexts K CP CE)) (M_step : MCal P w K mg base CR "step" 27 ["self", "which"] (spRStep P w K mg base CP CN CR)) (M_place : MCal P w K mg base CR "place" 1 ["self"] (spRPlace P w K mg base CP CN CR)) : FnOk P w K mg base CX0 28 f fd ["run", "place"] (spGoTo P w K mg base CP CN CR) := by
  refine FD.ok scGoTo (fun vs H Q E h => ?_) (fun cdv A0 outer s H vs Q E hr h => ?_)
  · obtain ⟨fm, F, ns, x, A, S, l, px, b, wa, way, p, n, ls, r, rfl, _⟩ := h
    rfl
  · obtain ⟨fm, F, ns, x, A, S, l, px, b, wa, way, p, n, ls, r, rfl, R, hls, hn, hrow, hzm, hzp, hzt, hzw, k⟩ := h
    have hr3 := hr.mono (show 3 ≤ 27 by decide)
    have hr1 := hr.mono (show 1 ≤ 27 by decide)
    obtain ⟨dx, hx⟩ := R.rx
    obtain ⟨j, hj, hf⟩ := first_at hn
    refine ⟨_, PSs.nox (pss_one (ps_expr (pmc M_step hr (pv 0) (pa_cons (pe_tidx (pe_inj (pcalN C_nexts hr3 rfl (pa_cons (pe_fld (pv 0) rfl) (pa_cons (pmc0 M_place hr1 (pv 0)) pa_nil)))) (pa_cons (pv 1) pa_nil)) pa_nil)))), ?_⟩
    refine ⟨_, rfl, x, dx, _, rfl, hx, rfl, _, rfl, x, CR, dx, _, _, rfl, hx, c.c, c.n_program, rfl, _, rfl, x, dx, _, rfl, hx, rfl, fm, F, ns, x, A, S, l, px, b, wa, way, p, rfl, R, px, _, b, rfl, R.pr, .inl ⟨p, ls, rfl, hls, fun y ty ny inj => ?_⟩⟩
    obtain ⟨a, xs, rfl, hS, ht⟩ := ty.tupI
    obtain rfl := ints_of ht
    have e : natV ls = (ls.map fun (n : Nat) => (n : Int)).map V.int := by
      unfold natV
      rw [List.map_map]
      rfl
    rw [e] at hS
    refine ⟨ny.df R.pd inj, _, rfl, a, _, n, j, rfl, rfl, hS, by rw [List.getElem?_map, hj]; rfl, fun m hm z => ?_, ?_⟩
    · rw [List.getElem?_map] at z
      cases e2 : ls[m]? with
      | none => rw [e2] at z; cases z
      | some v =>
        rw [e2] at z
        have : v = n := by
          have q : (v : Int) = (n : Int) := Option.some.inj z
          omega
        exact hf m hm (by rw [e2, this])
    · exact ⟨fm, F, ns, x, A, S, l, px, b, wa, way, p, j, n, ls, r, rfl, R, hls, hj, hrow, hzm, hzp, hzt, hzw, k⟩
/-- the class of runs, as it is made -/
structure RnM (P : Program) (w : World) (K : PySem.W.Frag) (mg : Str → Option Value) (base : Heap) (CP CN CR : Addr) : Prop where
  ex : ∃ (f : Addr) (fd : FuncData), Mk K CR f ∧ FnOk P w K mg base CX0 4 f fd ["self", "program", "functions"] (spRInit P w K mg base CP CN CR) ∧ Binds K fd ["self", "program", "functions"] [] ∧ mg "Run" = some (.ref CR)
def spTold (P : Program) (w : World) (K : PySem.W.Frag) (mg : Str → Option Value) (base : Heap) (CP CN CR : Addr) : Sp := fun vs H Q _ => ∃ (fm : Fam P w K mg base) (ns : List Str) (px wt fa : Addr) (l : fm.L) (b : List Rw) (kvs : List (Key × V)) (g : Str → Addr) (rest : List Nat), vs = [.ref px, .ref wt, .ref fa] ∧
  PrAt K CP H px b ∧ PrD CP H px ∧ SqT K H wt (plV (0 :: rest)) ∧ WayP b 0 rest ∧ rest.length ≤ 10000 ∧ H fa = some (.dK kvs) ∧ (∀ o ∈ opsB b, valV kvs (.inr o) = some (.ref (g o)) ∧ fm.Fn o (g o) H) ∧ fm.At l H ∧ Mks fm.out H ∧ fm.out.Nodup ∧ (∀ x ∈ (rowsB b).flatMap namesR, x ∈ ns) ∧ ns.length < 64 ∧ fm.lev ≤ 20 ∧
  ∀ x A F S' l' wa H', Fz fm.out H H' → RnAt fm CP CN CR F ns H' x A S' l' px b wa (0 :: rest) → RunS fm b NS0 l 0 rest S' l' → Q (.ref x) H'
theorem scTold : FnScope ["program", "way", "functions", "run", "place"] ["program", "way", "functions"] (defScope sTold) := ⟨rfl, rfl, rfl, by decide +kernel, rfl, by decide +kernel, by decide +kernel⟩
theorem ok_told {f : Addr} {fd : FuncData} (FD : FnP K "told" sTold f fd) (C_is_way : Cal P w K mg base "is_way" 3 ["program", "thing"] (spIsWay K CP)) (M : RnM P w K mg base CP CN CR) (C_go_to : Cal P w K mg base "go_to" 28 ["run", "place"] (spGoTo P w K mg base CP CN CR)) : FnOk P w K mg base CX0 29 f fd ["program", "way", "functions"] (spTold P w K mg base CP CN CR) := by
  refine FD.ok scTold (fun vs H Q E h => ?_) (fun cdv A0 outer s H vs Q E hr h => ?_)
  · obtain ⟨fm, ns, px, wt, fa, l, b, kvs, g, rest, rfl, _⟩ := h
    rfl
  · obtain ⟨fm, ns, px, wt, fa, l, b, kvs, g, rest, rfl, hP, hPD, hw, hway, hrl, hfa, hg, hat, hmo, hon, hns, h63, hlev, k⟩ := h
    obtain ⟨fR, fdR, mk, G, bR, gR⟩ := M.ex
    have hr3 := hr.mono (show 3 ≤ 28 by decide)
    have hr5 := hr.mono (show 5 ≤ 28 by decide)
    refine ⟨_, PSs.nox (pss_cons (ps_if (PW.pt (pw_or (pt_not (pt_val (pcal C_is_way hr3 rfl (pa_cons (pv 0) (pa_cons (pv 1) pa_nil))))) (pw_or1 (pt_cmpR op_ne (pe_ix ix_tup (pv 1) pe_int (fun _ _ => rfl)) pe_int (nomark _))))) (pss_one ps_never) pss_nil)
    (pss_cons (ps_set (i := 3) scTold.nd rfl (Or.inl rfl) (pe_make mk G hr5 rfl gR bR .nil pass0 (pa_cons (pv 0) (pa_cons (pv 2) pa_nil))))
    (pss_cons (ps_for PassesOwn.never rfl (pi_tup (pe_slice sl_tupZ (pv 1) (po_some pe_int) po_none)) (pg_name (i := 4) scTold.nd rfl (Or.inl rfl)) (pss_one (ps_expr (pcal C_go_to hr rfl (pa_cons (pv 3) (pa_cons (pv 4) pa_nil))))))
    (pss_one (ps_ret (pv 3)))))), ?_⟩
    have hwl : (plV (0 :: rest)).length ≤ 100000 := by
      unfold plV
      rw [List.length_map]
      show rest.length + 1 ≤ 100000
      omega
    refine ⟨_, rfl, _, rfl, px, _, b, rfl, hP, .inr ⟨wt, _, _, rfl, hw, itm_ints _, hwl, fun H1 s1 => ?_⟩⟩
    rw [wayP_judge hway (Nat.zero_le _)]
    have hw1 := s1.pt.sq hw
    have e0 : (V.bl !decide (V.int ((0 : Nat) : Int) = V.int 0)) = V.bl false := by
      rw [decide_eq_true (show V.int ((0 : Nat) : Int) = V.int 0 from rfl)]
      rfl
    refine ⟨_, rfl, _, rfl, wt, _, 0, .int ((0 : Nat) : Int), rfl, rfl, hw1, (at0 : atI (V.int ((0 : Nat) : Int) :: plV rest) 0 = _), rfl, false, e0, ?_⟩
    refine ⟨_, rfl, _, rfl, fun x dx nx ndx hne => ?_⟩
    have s2 : Same H1 (upd (upd H1 dx (.own x)) x (.ins CR dx [])) := same_putN (same_new ndx) nx
    have z1 := s1.fz (M := []) mks_nil
    refine ⟨fm, ns, x, dx, px, fa, l, b, H1, kvs, g, rfl, upd_same, nx, s2, hP.same s1, hPD.same s1, s1 _ _ hfa, fun o ho => ⟨(hg o ho).1, fm.fnK (hg o ho).2 mks_nil z1⟩, fm.atK hat mks_nil z1 (fun _ _ m => nomatch m), hmo.same s1, hon, hns, h63, hlev, fun A F wa H2 s12 R hfr => ⟨rfl, ?_⟩⟩
    have hw2 := s12.pt.sq hw1
    have s02 := s1.trans s12
    have mR := R.mksR
    refine ⟨_, rfl, _, rfl, wt, _, rfl, hw2, fun wc H3 s3 hwc => ?_⟩
    rw [show plV (0 :: rest) = V.int ((0 : Nat) : Int) :: plV rest from rfl, cut1] at hwc
    refine ⟨wc, rfl, ⟨_, hwc⟩, ?_⟩
    have z3 : Fz (wa :: (A.own ++ fm.out)) H2 H3 := s3.fz mR
    have R3 : RnAt fm CP CN CR F ns H3 x A NS0 l px b wa ([] ++ [0]) := ⟨by obtain ⟨d, hd⟩ := R.rx; exact ⟨d, s3 _ _ hd⟩, R.pr.same s3, R.pd.same s3, R.nt.same s3, s3 _ _ R.wy, R.nw, R.hF, R.hns, R.n63, R.lev⟩
    refine for_tup (xs := plV rest) (fun i σ' H' => ∃ (S' : NS) (l' : fm.L) (way' : List Nat) (p : Nat) (y : Option V), σ' = [some (.ref px), some (.ref wt), some (.ref fa), some (.ref x), y] ∧ Fz (wa :: (A.own ++ fm.out)) H2 H' ∧ SqT K H' wc (plV rest) ∧ RnAt fm CP CN CR F ns H' x A S' l' px b wa (way' ++ [p]) ∧ way' ++ [p] ++ rest.drop i = 0 :: rest ∧ WayP b p (rest.drop i) ∧
      way'.length = i ∧ S'.made.length ≤ i ∧ S'.printed.length ≤ i ∧ S'.trail.length ≤ i ∧ ∀ S2 l2, RunS fm b S' l' p (rest.drop i) S2 l2 → RunS fm b NS0 l 0 rest S2 l2) ⟨NS0, l, [], 0, _, rfl, z3, hwc, R3, rfl, hway, rfl, Nat.le_refl _, Nat.le_refl _, Nat.le_refl _, fun _ _ h => h⟩ ?_ ?_ ?_
    · rintro i σ' H' _ ⟨_, _, _, _, _, _, _, h, _⟩
      exact h
    · rintro i z σ' H' hz ⟨S', l', way', p, y, rfl, zz, hwc', R', hspl, hwp, hwl', hm, hpn, htr, kR⟩
      obtain ⟨n, hn, rfl⟩ : ∃ n, rest[i]? = some n ∧ z = V.int (n : Nat) := by
        unfold plV at hz
        rw [List.getElem?_map] at hz
        cases e : rest[i]? with
        | none => rw [e] at hz; cases hz
        | some p => rw [e] at hz; exact ⟨p, rfl, (Option.some.inj hz).symm⟩
      have hil : i < rest.length := (List.getElem?_eq_some_iff.mp hn).1
      have hdr : rest.drop i = n :: rest.drop (i + 1) := by
        rw [List.drop_eq_getElem_cons hil]
        have := (List.getElem?_eq_some_iff.mp hn).2
        rw [this]
      rw [hdr] at hspl hwp kR
      cases hwp with
      | @step _ _ ls r _ hl hnl hr0 hrest =>
        refine ⟨_, rfl, _, rfl, fm, F, ns, x, A, S', l', px, b, wa, way', p, n, ls, r, rfl, R', hl, hnl, hr0, by omega, by omega, by omega, by omega, fun S1 l1 H4 z4 R4 hD => ?_⟩
        obtain ⟨g1, g2⟩ := hD.sizes
        refine ⟨_, l1, way' ++ [p], n, _, rfl, zz.trans z4, (z4.pt R'.mksR).sq hwc', R4, ?_, hrest, ?_, ?_, ?_, ?_, fun S2 l2 h => kR S2 l2 (.step hl hnl hr0 hD h)⟩
        · rw [List.append_assoc]
          exact hspl
        · rw [List.length_append, hwl']
          rfl
        · exact Nat.le_trans g1 (Nat.succ_le_succ hm)
        · exact Nat.le_trans g2 (Nat.succ_le_succ hpn)
        · show (S'.trail ++ [markS S' r]).length ≤ i + 1
          rw [List.length_append]
          exact Nat.succ_le_succ htr
    · rintro σ' H' ⟨S', l', way', p, y, rfl, zz, hwc', R', hspl, hwp, hwl', hm, hpn, htr, kR⟩
      have e : (plV rest).length = rest.length := List.length_map ..
      rw [e, List.drop_length] at hspl kR
      rw [List.append_nil] at hspl
      rw [hspl] at R'
      refine ⟨_, rfl, k x A F S' l' wa H' ⟨fun b' u nb hb => ?_, R'.nt.mo⟩ R' (kR S' l' .done)⟩
      refine zz.keep _ _ (fun hm => ?_) (s02 _ _ hb)
      rcases List.mem_cons.mp hm with e1 | hm
      · have := hfr b' (by rw [e1]; exact List.mem_cons_self)
        rw [s1 _ _ hb] at this
        cases this
      · rcases List.mem_append.mp hm with hm | hm
        · have := hfr b' (List.mem_cons_of_mem _ hm)
          rw [s1 _ _ hb] at this
          cases this
        · exact nb hm
end
end K24
set_option Elab.async false
set_option linter.all false
set_option maxRecDepth 100000
set_option maxHeartbeats 4000000
namespace K24
open PySem PySem.Spec PyProof.Rows L2 ZX PM ZR
/-- a table, its bits, the names of its rows -/
structure Tab (K : PySem.W.Frag) (H : Hp) (l d : Addr) (us : List V) (b : List Rw) (ys : List Str) : Prop where
  hl : H l = some (.lst us)
  hu : Tvs K H us ((tabB b).map dE)
  hb : Bits H d ys
  hn : ∀ x ∈ (rowsB b).flatMap namesR, x ∈ ys
  G : Good b
  l8 : ys.length ≤ 8
theorem Tab.mv {K : PySem.W.Frag} {H H' : Hp} {l d : Addr} {us : List V} {b : List Rw} {ys : List Str} (t : Tab K H l d us b ys) {r : Addr} (nl : l ≠ r) (nd : d ≠ r) (k : Kp r H H') (pt : Pt H H') : Tab K H' l d us b ys :=
  ⟨k _ _ nl t.hl, t.hu.pt pt, t.hb.kp nd k, t.hn, t.G, t.l8⟩
theorem Tab.same {K : PySem.W.Frag} {H H' : Hp} {l d : Addr} {us : List V} {b : List Rw} {ys : List Str} (t : Tab K H l d us b ys) (s : Same H H') : Tab K H' l d us b ys :=
  ⟨s _ _ t.hl, t.hu.pt s.pt, t.hb.same s, t.hn, t.G, t.l8⟩
theorem Tab.len {K : PySem.W.Frag} {H : Hp} {l d : Addr} {us : List V} {b : List Rw} {ys : List Str} (t : Tab K H l d us b ys) : us.length = (rowsB b).length := by
  rw [t.hu.len, List.length_map, tab_len]
/-- the next places of a place -/
theorem leads_at {b : List Rw} {p : Nat} {ls : List Nat} (h : (leadsB b 0 (rowsB b).length)[p]? = some ls) : ls.length ≤ 2 ∧ ∀ n ∈ ls, n ≤ (rowsB b).length := by
  have hm := List.mem_of_getElem? h
  exact ⟨leadsB_two _ _ _ _ hm, fun n hn => by have := leadsB_le _ _ _ _ hm n hn; omega⟩
mutual
theorem entsR_one : ∀ (r : Rw) (p e : Nat), ∀ x ∈ entsR r p e, 1 ≤ x.2.length ∧ (inner x.1 = [] → x.2.length = 1)
  | .either a b, p, e, x, h => by
    rw [entsR_either] at h
    rcases List.mem_cons.mp h with rfl | h
    · exact ⟨by show 1 ≤ 2; decide, fun z => nomatch z⟩
    · rcases List.mem_append.mp h with h | h
      · exact entsB_one a _ _ x h
      · exact entsB_one b _ _ x h
  | .again a, p, e, x, h => by
    rw [entsR_again] at h
    rcases List.mem_cons.mp h with rfl | h
    · exact ⟨by show 1 ≤ 2; decide, fun z => nomatch z⟩
    · exact entsB_one a _ _ x h
  | .note _ _ _, p, e, x, h => by
    rw [List.mem_singleton.mp (show x ∈ [_] from h)]
    exact ⟨Nat.le_refl 1, fun _ => rfl⟩
  | .copy _ _, p, e, x, h => by
    rw [List.mem_singleton.mp (show x ∈ [_] from h)]
    exact ⟨Nat.le_refl 1, fun _ => rfl⟩
  | .give _ _, p, e, x, h => by
    rw [List.mem_singleton.mp (show x ∈ [_] from h)]
    exact ⟨Nat.le_refl 1, fun _ => rfl⟩
  | .ask _, p, e, x, h => by
    rw [List.mem_singleton.mp (show x ∈ [_] from h)]
    exact ⟨Nat.le_refl 1, fun _ => rfl⟩
  | .prt _, p, e, x, h => by
    rw [List.mem_singleton.mp (show x ∈ [_] from h)]
    exact ⟨Nat.le_refl 1, fun _ => rfl⟩
theorem entsB_one : ∀ (b : List Rw) (p e : Nat), ∀ x ∈ entsB b p e, 1 ≤ x.2.length ∧ (inner x.1 = [] → x.2.length = 1)
  | [], _, _, _, h => nomatch h
  | r :: b, p, e, x, h => by
    rw [entsB_cons] at h
    rcases List.mem_append.mp h with h | h
    · exact entsR_one r _ _ x h
    · exact entsB_one b _ _ x h
end
theorem tab_pair {b : List Rw} {p : Nat} {r : Rw} {ls : List Nat} (hr : (rowsB b)[p]? = some r) (hl : (leadsB b 0 (rowsB b).length)[p]? = some ls) : (r, ls) ∈ tabB b := by
  refine List.mem_of_getElem? (i := p) ?_
  unfold tabB entsB
  rw [List.getElem?_zip_eq_some]
  exact ⟨hr, hl⟩
/-- a mask of names -/
def MaskN (ys : List Str) (m : Nat) : Prop := ∃ S : Str → Bool, m = maskS ys S
/-- the first next place and the own bit of a note row -/
theorem note_at {K : PySem.W.Frag} {H : Hp} {l d : Addr} {us : List V} {b : List Rw} {ys : List Str} (t : Tab K H l d us b ys) {p : Nat} {x o : Str} {ps : List Str} (hp : (rowsB b)[p]? = some (.note x o ps)) :
    ∃ ea ex ey q, us[p]? = some (.ref ea) ∧ SqT K H ea [.ref ex, .ref ey] ∧ RV K H (.ref ex) (.note x o ps) ∧ (∃ tl, SqT K H ex (V.str "note" :: V.str x :: tl)) ∧ SqT K H ey [.int (q : Nat)] ∧ q ≤ (rowsB b).length ∧ (leadsB b 0 (rowsB b).length)[p]? = some [q] ∧ x ∈ ys ∧ DGet H d (.str x) (some (.int ((2 ^ idxS ys x : Nat) : Int))) ∧ MaskN ys (2 ^ idxS ys x) := by
  obtain ⟨ea, vx, vy, ls, hea, hES, hEr, hEl, hls⟩ := tab_get t.hu hp
  obtain ⟨ex, tl, rfl, hxS, hxt⟩ := hEr.rowI
  obtain ⟨v1, v2, v3, rfl, t1, t2, t3⟩ := hxt.three
  cases t1.strI
  obtain ⟨ey, zs, rfl, hyS, hyt⟩ := hEl.tupI
  have h1 := (entsB_one _ _ _ _ (tab_pair hp hls)).2 rfl
  obtain ⟨q, rfl⟩ : ∃ q, ls = [q] := by
    match ls, h1 with
    | [q], _ => exact ⟨q, rfl⟩
  rw [Tvs.ints hyt] at hyS
  have hx : x ∈ ys := names_mem t.hn (List.mem_of_getElem? hp) x List.mem_cons_self
  refine ⟨ea, ex, ey, q, hea, hES, hEr, ⟨_, hxS⟩, hyS, (leads_at hls).2 q List.mem_cons_self, hls, hx, t.hb.get hx, putS (fun _ => false) x true, ?_⟩
  have := maskS_put (S := fun _ => false) t.hb.nd (idxS_at hx) rfl
  rw [this, maskS_zero, Nat.zero_add]
end K24
set_option Elab.async false
set_option linter.all false
set_option maxRecDepth 100000
set_option maxHeartbeats 4000000
/-! The law's _law_led: a real way. -/
namespace PM
open PySem PySem.Spec PyProof.Rows L2 ZX ZR
theorem leadsP_left {b : List Rw} {p : Nat} {ls : List Nat} (h : (leadsB b 0 (rowsB b).length)[p]? = some ls) : (leadsP b)[p]? = some ls := by
  unfold leadsP
  rw [List.getElem?_append_left (List.getElem?_eq_some_iff.mp h).1]
  exact h
end PM
namespace K24
open PySem PySem.Spec PyProof.Rows L2 ZX PM ZR
abbrev sLLed : Stmt := top 69
def spLLed (K : PySem.W.Frag) : Sp := fun vs H Q _ => ∃ (p c l : Addr) (q m : Nat) (us : List V) (b : List Rw), vs = [.ref p, .ref l, .int (q : Nat), .int (m : Nat)] ∧ m ≤ 100 ∧ HandAt H p c ∧ H l = some (.lst us) ∧ Tvs K H us ((tabB b).map dE) ∧ Good b ∧ q ≤ (rowsB b).length ∧ l ≠ p ∧
  ∀ (a : Addr) (rest : List Nat) (H' : Hp), HandAt H' p c → Kp p H H' → SqT K H' a (plV (q :: rest)) → rest.length ≤ m → WayP b q rest → Q (.ref a) H'
section
variable {P : Program} {w : World} {K : PySem.W.Frag} {mg : Str → Option Value} {base : Heap}
theorem scLed : FnScope ["_law_hand_here", "_law_table_here", "_law_place", "_law_many", "_law_way", "_law_step"] ["_law_hand_here", "_law_table_here", "_law_place", "_law_many"] (defScope sLLed) := ⟨rfl, rfl, rfl, by decide +kernel, rfl, by decide +kernel, by decide +kernel⟩
theorem ok_lled {f : Addr} {fd : FuncData} (F : FnP K "_law_led" sLLed f fd) (T : Bi mg) (C__law_any : Cal P w K mg base "_law_any" 2 ["_law_hand_here", "_law_things"] (spAny K)) : FnOk P w K mg base CX0 3 f fd ["_law_hand_here", "_law_table_here", "_law_place", "_law_many"] (spLLed K) := by
  refine F.ok scLed (fun vs H Q E h => ?_) (fun cdv A outer s H vs Q E hr h => ?_)
  · obtain ⟨p, c, l, q, m, us, b, rfl, _⟩ := h
    rfl
  · obtain ⟨p, c, l, q, m, us, b, rfl, hm, hh0, hl, hu, G, hq, nlp, k⟩ := h
    refine ⟨_, PSs.nox (pss_cons (ps_set (i := 4) scLed.nd rfl (Or.inl rfl) (pe_tup (pa_cons (pv 2) pa_nil)))
    (pss_cons (ps_for PassesOwn.never rfl (pi_range1 rfl T.b_range (pa_cons (pv 3) pa_nil)) (pg_name (i := 5) scLed.nd rfl (Or.inl rfl)) (pss_one (ps_if (pt_cmpR op_lt (pe_ix ix_tup (pv 4) (pe_un un_neg pe_int) (fun _ _ => rfl)) (pe_callB call_len_seq (by rfl) T.b_len (by decide +kernel) (pa_cons (pv 1) pa_nil)) (nomark _)) (pss_one (ps_set (i := 4) scLed.nd rfl (Or.inl rfl) (pe_op op_catZ (pv 4) (pe_tup (pa_cons (pcal C__law_any hr rfl (pa_cons (pv 0) (pa_cons (pe_ix ix_tup (pe_ix ix_list (pv 1) (pe_ix ix_tup (pv 4) (pe_un un_neg pe_int) (fun _ _ => rfl)) (fun _ _ => rfl)) pe_int (fun _ _ => rfl)) pa_nil))) pa_nil))))) pss_nil)))
    (pss_one (ps_ret (pv 4))))), ?_⟩
    have hul : us.length = (rowsB b).length := by rw [hu.len, List.length_map, tab_len]
    refine ⟨_, rfl, by show 1 ≤ sizeLine; decide, fun a na => ?_⟩
    have sa := same_new (o := .tup [V.int (q : Nat)]) na
    refine ⟨_, rfl, _, rfl, by omega, by omega, ?_⟩
    refine for_range (fun i σ' H' => ∃ (a : Addr) (hs : List Nat) (g : Nat) (rest : List Nat) (y5 : Option V), σ' = [some (.ref p), some (.ref l), some (.int q), some (.int m), some (.ref a), y5] ∧ HandAt H' p c ∧ Kp p H H' ∧ SqT K H' a (plV (hs ++ [g])) ∧ hs ++ [g] = q :: rest ∧ rest.length ≤ i ∧ g ≤ (rowsB b).length ∧ ∀ more, WayP b g more → WayP b q (rest ++ more)) ⟨a, [], q, [], _, rfl, hh0.kp sa, sa.kp, .inl (.inl upd_same), rfl, Nat.le_refl _, hq, fun _ h => h⟩ ?_ ?_
    · rintro i σ' H' hi ⟨a, hs, g, rest, y5, rfl, hh, kp, hS, hsr, hle, hg, hw⟩
      have pt := hh0.pt kp
      have hl' := kp _ _ nlp hl
      have hlast : atI (plV (hs ++ [g])) (-1) = some (V.int (g : Nat)) := by
        rw [plV_app]
        exact atI_last _ _
      have him : i < m := by omega
      have hsl : hs.length = rest.length := by
        have := congrArg List.length hsr
        rw [List.length_append] at this
        exact Nat.succ.inj this
      refine ⟨_, rfl, _, rfl, a, _, _, _, rfl, rfl, hS, hlast, _, rfl, l, _, rfl, .inl (SqL.of hl'), _, _, rfl, rfl, _, rfl, ?_⟩
      refine ite2 (fun e => ?_) (fun _ => ⟨a, hs, g, rest, _, rfl, hh, kp, hS, hsr, by omega, hg, hw⟩)
      have hgl : g < (rowsB b).length := by
        have : (g : Int) < (us.length : Nat) := of_decide_eq_true e
        omega
      have hr1 : (rowsB b)[g]? = some (rowsB b)[g] := List.getElem?_eq_getElem hgl
      obtain ⟨fa, fx, fy, gs, hfa, hFS, hFr, hFl, hgs⟩ := tab_get (hu.pt pt) hr1
      obtain ⟨ga, zs, rfl, hgS, hgt⟩ := hFl.tupI
      rw [Tvs.ints hgt] at hgS
      obtain ⟨hg2, hgR⟩ := leads_at hgs
      have hg1 := (entsB_one _ _ _ _ (tab_pair hr1 hgs)).1
      refine ⟨_, rfl, _, rfl, _, rfl, _, rfl, _, rfl, a, _, _, _, rfl, rfl, hS, hlast, l, _, _, _, rfl, rfl, SqL.of hl', at_of (j := g) rfl hfa, fa, _, _, _, rfl, rfl, hFS, rfl, p, c, ga, _, rfl, hh, .inr hgS, ?_, ?_, fun x H2 hx hh2 ch2 => ?_⟩
      · intro z
        have := congrArg List.length z
        rw [List.length_map] at this
        simp at this
        rw [this] at hg1
        exact absurd hg1 (show ¬ 1 ≤ 0 by decide)
      · rw [List.length_map]
        have : gs.length ≤ 2 := hg2
        omega
      · obtain ⟨g', hg', rfl⟩ := List.mem_map.mp hx
        refine ⟨by show 1 ≤ sizeLine; decide, fun u nu => ?_⟩
        have su := same_new (o := .tup [V.int (g' : Nat)]) nu
        have pt2 := (hh.pt ch2.kp).trans su.pt
        refine ⟨a, u, _, _, rfl, rfl, pt2.sq hS, .inl (.inl upd_same), Nat.le_trans (show (plV (hs ++ [g])).length + 1 ≤ 140 by unfold plV; rw [List.length_map, List.length_append]; show hs.length + 1 + 1 ≤ 140; omega) (by decide), fun w H3 s3 hw3 => ?_⟩
        refine ⟨w, hs ++ [g], g', rest ++ [g'], _, rfl, (hh2.kp su).kp s3, ((kp.trans ch2.kp).same su).same s3, by rw [plV_app]; exact hw3, by rw [hsr]; rfl, by rw [List.length_append]; show rest.length + 1 ≤ i + 1; omega, hgR g' hg', fun more hmore => ?_⟩
        rw [List.append_assoc]
        exact hw _ (.step (leadsP_left hgs) hg' hr1 hmore)
    · rintro σ' H' ⟨a, hs, g, rest, y5, rfl, hh, kp, hS, hsr, hle, hg, hw⟩
      rw [hsr] at hS
      have hw' := hw [] .done
      rw [List.append_nil] at hw'
      exact ⟨_, rfl, k a rest H' hh kp hS hle hw'⟩
end
end K24
set_option Elab.async false
set_option linter.all false
set_option maxRecDepth 100000
set_option maxHeartbeats 4000000
/-! The law's _law_count, _law_functions; the family of its one function. -/
namespace PM
open PySem PySem.Spec PyProof.Rows L2 ZX ZR
/-- the family of a function that counts -/
def fmC (P : Program) (w : World) (K : PySem.W.Frag) (mg : Str → Option Value) (base : Heap) (fC : Addr) (C : Callee P w K mg base 1 fC (fun _ => True) (fun vs H Q _ => ∃ t ws, vs = [.ref t] ∧ SqT K H t ws ∧ Q (.int (ws.length : Nat)) H)) : Fam P w K mg base where
  L := Unit
  At := fun _ _ => True
  out := []
  lev := 1
  Ok := fun _ => True
  call := fun _ ws _ v _ => v = .int (ws.length : Nat)
  Fn := fun _ f _ => f = fC
  ok0 := trivial
  okI := fun _ => trivial
  atK := fun _ _ _ _ => trivial
  fnK := fun h _ _ => h
  callee := fun o f => by
    refine ⟨fun {X pins σ H s} e I h => ?_, fun {X pins σ H s us vs Q} e1 e2 e3 e4 e5 I h hr r sp => ?_⟩
    · subst h
      exact C.at_ e I trivial
    · subst h
      obtain ⟨t, ws, l, rfl, hS, _, _, _, _, k⟩ := sp
      exact C.run e1 e2 e3 e4 e5 I trivial hr r ⟨t, ws, rfl, hS, k _ () H rfl trivial ⟨fun _ _ _ h => h, fun _ h => (nomatch h)⟩ trivial⟩
end PM
namespace K24
open PySem PySem.Spec PyProof.Rows L2 ZX PM ZR
abbrev sLCount : Stmt := top 74
abbrev sLFuns : Stmt := top 75
theorem tab_row {K : PySem.W.Frag} {H : Hp} {us : List V} {b : List Rw} {i : Nat} {x : V} (hu : Tvs K H us ((tabB b).map dE)) (hx : us[i]? = some x) : ∃ r ls, (rowsB b)[i]? = some r ∧ Tv K H x (dE (r, ls)) := by
  have hil : i < us.length := (List.getElem?_eq_some_iff.mp hx).1
  have hil' : i < (tabB b).length := by
    have := hu.len
    rw [List.length_map] at this
    omega
  obtain ⟨u, hu1, hu2⟩ := Tvs.get (i := i) (d := dE (tabB b)[i]) hu (by rw [List.getElem?_map, List.getElem?_eq_getElem hil']; rfl)
  rw [hx] at hu1
  cases hu1
  refine ⟨(tabB b)[i].1, (tabB b)[i].2, ?_, hu2⟩
  rw [← tab_fst, List.getElem?_map, List.getElem?_eq_getElem hil']
  rfl
section
variable {P : Program} {w : World} {K : PySem.W.Frag} {mg : Str → Option Value} {base : Heap}
def spLCount (K : PySem.W.Frag) : Sp := fun vs H Q _ => ∃ t ws, vs = [.ref t] ∧ SqT K H t ws ∧ Q (.int (ws.length : Nat)) H
theorem scLCount : FnScope ["_law_row"] ["_law_row"] (defScope sLCount) := ⟨rfl, rfl, rfl, by decide +kernel, rfl, by decide +kernel, by decide +kernel⟩
theorem ok_lcount {f : Addr} {fd : FuncData} (F : FnP K "_law_count" sLCount f fd) (T : Bi mg) : FnOk P w K mg base CX0 1 f fd ["_law_row"] (spLCount K) := by
  refine F.ok scLCount (fun vs H Q E h => ?_) (fun cdv A outer s H vs Q E hr h => ?_)
  · obtain ⟨t, ws, rfl, _⟩ := h
    rfl
  · obtain ⟨t, ws, rfl, hS, k⟩ := h
    refine ⟨_, PSs.nox (pss_one (ps_ret (pe_callB call_len_seq (by rfl) T.b_len (by decide +kernel) (pa_cons (pv 0) pa_nil)))), ?_⟩
    exact ⟨_, rfl, t, _, rfl, .inr hS, k⟩
def spLFuns (K : PySem.W.Frag) (fC : Addr) : Sp := fun vs H Q _ => ∃ (l : Addr) (us : List V) (b : List Rw), vs = [.ref l] ∧ H l = some (.lst us) ∧ Tvs K H us ((tabB b).map dE) ∧ Good b ∧ ∀ d kvs H', Same H H' → H d = none → H' d = some (.dK kvs) → (∀ o ∈ opsB b, valV kvs (.inr o) = some (.ref fC)) → Q (.ref d) H'
theorem scLFuns : FnScope ["_law_table_here", "_law_found", "_law_row", "_law_later"] ["_law_table_here"] (defScope sLFuns) := ⟨rfl, rfl, rfl, by decide +kernel, rfl, by decide +kernel, by decide +kernel⟩
theorem ok_lfuns {fC f : Addr} {fd : FuncData} (F : FnP K "_law_functions" sLFuns f fd) (gC : mg "_law_count" = some (.ref fC)) : FnOk P w K mg base CX0 1 f fd ["_law_table_here"] (spLFuns K fC) := by
  refine F.ok scLFuns (fun vs H Q E h => ?_) (fun cdv A outer s H vs Q E hr h => ?_)
  · obtain ⟨l, us, b, rfl, _⟩ := h
    rfl
  · obtain ⟨l, us, b, rfl, hl, hu, G, k⟩ := h
    have l30 := G.l30
    have hu' := hu_of hr
    refine ⟨_, PSs.nox (pss_cons (ps_set (i := 1) scLFuns.nd rfl (Or.inl rfl) pe_dnewK)
    (pss_cons (ps_for PassesOwn.never rfl (pi_list (pv 0)) (pg_tup rfl (pgs_cons (pg_name (i := 2) scLFuns.nd rfl (Or.inl rfl)) (pgs_cons (pg_name (i := 3) scLFuns.nd rfl (Or.inl rfl)) pgs_nil))) (pss_one (ps_if (pt_cmpR op_eq (pe_ix ix_tup (pv 2) pe_int (fun _ _ => rfl)) pe_str (nomark _)) (pss_one (ps_dput hu' (pv 1) (pe_ix ix_tup (pv 2) pe_int (fun _ _ => rfl)) (pe_glob (v := .ref fC) (by rfl) gC rfl) rfl)) pss_nil)))
    (pss_one (ps_ret (pv 1))))), ?_⟩
    intro d nd
    have nld : l ≠ d := ne_of_none hl nd
    have hul : us.length = (rowsB b).length := by rw [hu.len, List.length_map, tab_len]
    have sd := same_new (o := .dK []) nd
    refine ⟨_, rfl, l, rfl, ⟨us, SqL.of (sd _ _ hl)⟩, ?_⟩
    refine for_list (xs := us) (fun i σ' H' => ∃ kvs y z, σ' = [some (.ref l), some (.ref d), y, z] ∧ Same H H' ∧ H' l = some (.lst us) ∧ H' d = some (.dK kvs) ∧ kvs.length ≤ i ∧ ∀ o ∈ ((((rowsB b).take i).filter isNote).map opOf), valV kvs (.inr o) = some (.ref fC)) ⟨[], _, _, rfl, sd, sd _ _ hl, upd_same, Nat.le_refl _, by rw [List.take_zero]; exact fun _ h => nomatch h⟩ ?_ ?_ ?_
    · rintro i σ' H' _ ⟨kvs, y, z, rfl, sm, h2, _⟩
      exact SqL.of h2
    · rintro i x σ' H' hx ⟨kvs, y, z, rfl, sm, hl', hd, hkl, hk⟩
      have hil : i < us.length := (List.getElem?_eq_some_iff.mp hx).1
      obtain ⟨r, ls, hr0, tx⟩ := tab_row (hu.pt sm.pt) hx
      obtain ⟨xa, xr, xl, rfl, hxS, tr, _⟩ := tx.ent
      obtain ⟨ra, tl, rfl, hrS, hrt⟩ := tr.rowI
      have htk : (rowsB b).take (i + 1) = (rowsB b).take i ++ [r] := by
        rw [List.take_succ, hr0]
        rfl
      refine ⟨xa, _, rfl, hxS, rfl, _, _, rfl, _, _, rfl, rfl, ?_⟩
      refine ⟨_, rfl, _, _, _, _, rfl, rfl, hrS, at0, rfl, _, rfl, ?_⟩
      have skip : isNote r = false → ∃ kvs y z, [some (V.ref l), some (V.ref d), some (V.ref ra), some xl] = [some (.ref l), some (.ref d), y, z] ∧ Same H H' ∧ H' l = some (.lst us) ∧ H' d = some (.dK kvs) ∧ kvs.length ≤ i + 1 ∧ ∀ o ∈ ((((rowsB b).take (i + 1)).filter isNote).map opOf), valV kvs (.inr o) = some (.ref fC) := fun e => by
        refine ⟨kvs, _, _, rfl, sm, hl', hd, Nat.le_succ_of_le hkl, fun o ho => hk o ?_⟩
        rw [htk, List.filter_append, List.filter_cons, e] at ho
        simpa using ho
      cases r with
      | note y o ps =>
        obtain ⟨v1, v2, v3, rfl, t1, t2, t3⟩ := hrt.three
        cases t2.strI
        refine ifD rfl ⟨_, rfl, _, rfl, _, _, _, _, rfl, rfl, hrS, rfl, d, _, rfl, DPut.k (k := .inr o) hd (Nat.lt_of_le_of_lt (show kvs.length ≤ 1000 by omega) (by decide)), ?_⟩
        refine ⟨_, _, _, rfl, same_putN sm nd, (upd_ne nld).trans hl', upd_same, ?_, fun o' ho => ?_⟩
        · have : (putK kvs (.inr o) (V.ref fC)).length ≤ kvs.length + 1 := by
            cases e : valV kvs (.inr o) with
            | none =>
              rw [putK_new _ e, List.length_append]
              exact Nat.le_refl _
            | some v =>
              have := congrArg List.length (putK_keys (v := V.ref fC) e)
              rw [List.length_map, List.length_map] at this
              omega
          omega
        · rw [valV_put]
          by_cases e : o' = o
          · rw [e, if_pos rfl]
          · rw [if_neg (fun z => e (by injection z))]
            refine hk o' ?_
            rw [htk, List.filter_append, List.map_append] at ho
            rcases List.mem_append.mp ho with h | h
            · exact h
            · exact absurd (List.mem_singleton.mp (show o' ∈ [o] from h)) e
      | copy y z => exact ifDF (neS (a := "copy") (b := "note") (by decide +kernel)) (skip rfl)
      | give y i => exact ifDF (neS (a := "give") (b := "note") (by decide +kernel)) (skip rfl)
      | ask y => exact ifDF (neS (a := "ask") (b := "note") (by decide +kernel)) (skip rfl)
      | prt y => exact ifDF (neS (a := "print") (b := "note") (by decide +kernel)) (skip rfl)
      | either y z => exact ifDF (neS (a := "either") (b := "note") (by decide +kernel)) (skip rfl)
      | again y => exact ifDF (neS (a := "again") (b := "note") (by decide +kernel)) (skip rfl)
    · rintro σ' H' ⟨kvs, y, z, rfl, sm, hl', hd, hkl, hk⟩
      rw [hul, List.take_length] at hk
      exact ⟨_, rfl, k d kvs H' sm nd hd hk⟩
end
end K24
set_option Elab.async false
set_option linter.all false
set_option maxRecDepth 100000
set_option maxHeartbeats 4000000
/-! The law's own account and a run's notes: the maths. -/
namespace PM
open PySem PySem.Spec PyProof.Rows L2 ZX ZR
/-- reached along things that wait -/
inductive Rch (ed : Nat → Nat → Prop) (un : Nat → Prop) : Nat → Nat → Prop
  | here {n : Nat} (h : un n) : Rch ed un n n
  | down {m p n : Nat} (hm : un m) (he : ed m p) (h : Rch ed un p n) : Rch ed un m n
section
variable {ed ed' : Nat → Nat → Prop} {un un' : Nat → Prop} {a b c : Nat}
theorem Rch.un1 (h : Rch ed un a b) : un a := by cases h <;> assumption
theorem Rch.un2 (h : Rch ed un a b) : un b := by
  induction h with
  | here h => exact h
  | down _ _ _ ih => exact ih
theorem Rch.mono (hu : ∀ n, un n → un' n) (he : ∀ m p, un m → un p → ed m p → ed' m p) (h : Rch ed un a b) : Rch ed' un' a b := by
  induction h with
  | here h => exact .here (hu _ h)
  | down hm e h ih => exact .down (hu _ hm) (he _ _ hm h.un1 e) ih
theorem Rch.trans (h : Rch ed un a b) (k : Rch ed un b c) : Rch ed un a c := by
  induction h with
  | here h => exact k
  | down hm e h ih => exact .down hm e (ih k)
/-- a closed set has all that is reached -/
theorem Rch.into {T : Nat → Prop} (cl : ∀ m p, T m → ed m p → un p → T p) (h : Rch ed un a b) : T a → T b := by
  induction h with
  | here h => exact id
  | down hm e h ih => exact fun ht => ih (cl _ _ ht e h.un1)
end
/-- the law's own account -/
structure AC where
  heads : Str → Option Nat
  parts : List (List (Option Nat))
  worked : List Nat
def AC0 : AC := ⟨fun _ => none, [], []⟩
def edA (A : AC) (m p : Nat) : Prop := ∃ ps, A.parts[m]? = some ps ∧ some p ∈ ps
def unA (A : AC) (n : Nat) : Prop := n ∉ A.worked
/-- what lies beneath a name -/
def Bn (A : AC) (x : Str) (n : Nat) : Prop := ∃ m, A.heads x = some m ∧ Rch (edA A) (unA A) m n
structure WfA (A : AC) : Prop where
  low : ∀ (k : Nat) (ps : List (Option Nat)), A.parts[k]? = some ps → ∀ n : Nat, some n ∈ ps → n < k
  hlow : ∀ x n, A.heads x = some n → n < A.parts.length
  wlow : ∀ n ∈ A.worked, n < A.parts.length
  three : ∀ ps ∈ A.parts, ps.length ≤ 3
def setO (h : Str → Option Nat) (x : Str) (o : Option Nat) : Str → Option Nat := fun y => if y = x then o else h y
theorem setO_same {h : Str → Option Nat} {x : Str} {o : Option Nat} : setO h x o x = o := by
  unfold setO
  rw [if_pos rfl]
theorem setO_ne {h : Str → Option Nat} {x y : Str} {o : Option Nat} (n : ¬ y = x) : setO h x o y = h y := by
  unfold setO
  rw [if_neg n]
inductive AcDo (A : AC) : Rw → AC → Prop
  | note {x o : Str} {ps : List Str} (h3 : ps.length ≤ 3) : AcDo A (.note x o ps) { A with heads := setO A.heads x (some A.parts.length), parts := A.parts ++ [ps.map A.heads] }
  | copy {x y : Str} : AcDo A (.copy x y) { A with heads := setO A.heads x (A.heads y) }
  | give {x : Str} {i : Int} : AcDo A (.give x i) { A with heads := setO A.heads x none }
  | ask {x : Str} {fs : List Nat} (h : ∀ n, n ∈ fs ↔ Bn A x n) : AcDo A (.ask x) { A with worked := A.worked ++ fs }
  | prt {x : Str} {fs : List Nat} (h : ∀ n, n ∈ fs ↔ Bn A x n) : AcDo A (.prt x) { A with worked := A.worked ++ fs }
  | either {a b : List Rw} : AcDo A (.either a b) A
  | again {a : List Rw} : AcDo A (.again a) A
theorem Rch.lt {A : AC} (wf : WfA A) {m n : Nat} (h : Rch (edA A) (unA A) m n) : n ≤ m := by
  induction h with
  | here _ => exact Nat.le_refl _
  | down _ e _ ih =>
    obtain ⟨ps, h1, h2⟩ := e
    exact Nat.le_of_lt (Nat.lt_of_le_of_lt ih (wf.low _ _ h1 _ h2))
theorem WfA.step {A A' : AC} {r : Rw} (wf : WfA A) (h : AcDo A r A') : WfA A' := by
  cases h with
  | note h3 =>
    rename_i x o ps
    refine ⟨fun k qs hk n hn => ?_, fun y n e => ?_, fun n hn => by show n < (A.parts ++ [_]).length; rw [List.length_append]; exact Nat.lt_of_lt_of_le (wf.wlow n hn) (Nat.le_add_right _ _), fun qs hq => (List.mem_append.mp hq).elim (wf.three qs) fun hq => by rw [List.mem_singleton.mp hq, List.length_map]; exact h3⟩
    · have hk : (A.parts ++ [ps.map A.heads])[k]? = some qs := hk
      by_cases l : k < A.parts.length
      · rw [List.getElem?_append_left l] at hk
        exact wf.low k qs hk n hn
      · rw [List.getElem?_append_right (Nat.le_of_not_lt l)] at hk
        cases ek : k - A.parts.length with
        | zero =>
          rw [ek] at hk
          cases hk
          obtain ⟨z, _, hz⟩ := List.mem_map.mp hn
          exact Nat.lt_of_lt_of_le (wf.hlow z n hz) (Nat.le_of_not_lt l)
        | succ j =>
          rw [ek] at hk
          cases hk
    · show n < (A.parts ++ [ps.map A.heads]).length
      rw [List.length_append]
      have e : setO A.heads x (some A.parts.length) y = some n := e
      by_cases h : y = x
      · rw [h, setO_same] at e
        cases e
        exact Nat.lt_succ_self _
      · rw [setO_ne h] at e
        exact Nat.lt_of_lt_of_le (wf.hlow y n e) (Nat.le_add_right _ _)
  | copy =>
    rename_i x y
    refine ⟨wf.low, fun z n e => ?_, wf.wlow, wf.three⟩
    have e : setO A.heads x (A.heads y) z = some n := e
    by_cases h : z = x
    · rw [h, setO_same] at e
      exact wf.hlow y n e
    · rw [setO_ne h] at e
      exact wf.hlow z n e
  | give =>
    rename_i x i
    refine ⟨wf.low, fun z n e => ?_, wf.wlow, wf.three⟩
    have e : setO A.heads x none z = some n := e
    by_cases h : z = x
    · rw [h, setO_same] at e
      cases e
    · rw [setO_ne h] at e
      exact wf.hlow z n e
  | ask h =>
    refine ⟨wf.low, wf.hlow, fun n hn => ?_, wf.three⟩
    rcases List.mem_append.mp hn with hn | hn
    · exact wf.wlow n hn
    · obtain ⟨m, hm, hr⟩ := (h n).mp hn
      exact Nat.lt_of_le_of_lt (hr.lt wf) (wf.hlow _ _ hm)
  | prt h =>
    refine ⟨wf.low, wf.hlow, fun n hn => ?_, wf.three⟩
    rcases List.mem_append.mp hn with hn | hn
    · exact wf.wlow n hn
    · obtain ⟨m, hm, hr⟩ := (h n).mp hn
      exact Nat.lt_of_le_of_lt (hr.lt wf) (wf.hlow _ _ hm)
  | either => exact wf
  | again => exact wf
/-! ### the run's notes -/
def edS (S : NS) (m p : Nat) : Prop := ∃ mm, S.made[m]? = some mm ∧ Th.note p ∈ mm.2
def unS (S : NS) (n : Nat) : Prop := S.worths.lookup n = none
def RT (A : AC) : Th → Option Nat → Prop
  | .note n, o => o = some n
  | .worth _, o => ∀ n, o = some n → n ∈ A.worked
def RTo (A : AC) : Option Th → Option Nat → Prop
  | some t, o => RT A t o
  | none, o => o = none
structure Sim (S : NS) (A : AC) : Prop where
  len : S.made.length = A.parts.length
  parts : ∀ (k : Nat) (m : Str × List Th), S.made[k]? = some m → ∃ ps, A.parts[k]? = some ps ∧ All2 (RT A) m.2 ps
  heads : ∀ x, RTo A (S.heads x) (A.heads x)
  worked : ∀ n, n ∈ A.worked ↔ S.worths.lookup n ≠ none
theorem sim0 : Sim NS0 AC0 := ⟨rfl, fun k m h => (by cases h), fun x => rfl, fun n => ⟨fun h => (nomatch h), fun h => absurd rfl h⟩⟩
theorem RT.mono {A A' : AC} (h : ∀ n, n ∈ A.worked → n ∈ A'.worked) {t : Th} {o : Option Nat} (r : RT A t o) : RT A' t o := by
  cases t with
  | note n => exact r
  | worth v => exact fun n e => h n (r n e)
theorem RTo.mono {A A' : AC} (h : ∀ n, n ∈ A.worked → n ∈ A'.worked) {t : Option Th} {o : Option Nat} (r : RTo A t o) : RTo A' t o := by
  cases t with
  | none => exact r
  | some t => exact RT.mono h r
theorem Sim.un {S : NS} {A : AC} (s : Sim S A) (n : Nat) : unS S n ↔ unA A n := by
  unfold unS unA
  rw [s.worked]
  cases S.worths.lookup n <;> simp
theorem Sim.ed {S : NS} {A : AC} (s : Sim S A) (m p : Nat) (hp : unS S p) : edS S m p ↔ edA A m p := by
  constructor
  · rintro ⟨mm, h1, h2⟩
    obtain ⟨ps, g1, g2⟩ := s.parts m mm h1
    obtain ⟨j, hj, ej⟩ := List.getElem_of_mem h2
    obtain ⟨o, ho, r⟩ := g2.getL (i := j) (by rw [List.getElem?_eq_getElem hj, ej])
    refine ⟨ps, g1, ?_⟩
    have : o = some p := r
    rw [← this]
    exact List.mem_of_getElem? ho
  · rintro ⟨ps, g1, g2⟩
    have hm : m < S.made.length := by
      rw [s.len]
      exact (List.getElem?_eq_some_iff.mp g1).1
    obtain ⟨ps', g1', all⟩ := s.parts m S.made[m] (List.getElem?_eq_getElem hm)
    rw [g1] at g1'
    cases g1'
    obtain ⟨j, hj, ej⟩ := List.getElem_of_mem g2
    obtain ⟨t, ht, r⟩ := all.getR (i := j) (by rw [List.getElem?_eq_getElem hj, ej])
    refine ⟨_, List.getElem?_eq_getElem hm, ?_⟩
    cases t with
    | note n =>
      have : some p = some n := r
      cases this
      exact List.mem_of_getElem? ht
    | worth v => exact absurd (r p rfl) ((s.un p).mp hp)
theorem Sim.rch {S : NS} {A : AC} (s : Sim S A) {m n : Nat} : Rch (edS S) (unS S) m n ↔ Rch (edA A) (unA A) m n :=
  ⟨Rch.mono (fun n h => (s.un n).mp h) fun m p _ hp => (s.ed m p hp).mp, Rch.mono (fun n h => (s.un n).mpr h) fun m p _ hp => (s.ed m p ((s.un p).mpr hp)).mpr⟩
theorem now_note {S : NS} {t : Th} {n : Nat} : nowS S t = .note n ↔ t = .note n ∧ unS S n := by
  cases t with
  | worth v => exact ⟨fun e => (by cases e), fun e => (by cases e.1)⟩
  | note k =>
    cases e : S.worths.lookup k with
    | none =>
      rw [nowS_none e]
      exact ⟨fun h => by cases h; exact ⟨rfl, e⟩, fun h => h.1⟩
    | some v =>
      rw [nowS_some e]
      refine ⟨fun h => (by cases h), fun h => ?_⟩
      obtain ⟨h1, h2⟩ := h
      have h3 : k = n := by injection h1
      have h2 : S.worths.lookup n = none := h2
      rw [← h3, e] at h2
      cases h2
theorem RT.now {S : NS} {A : AC} (s : Sim S A) {t : Th} {o : Option Nat} (r : RT A t o) : RT A (nowS S t) o := by
  cases t with
  | worth v => exact r
  | note k =>
    have ro : o = some k := r
    cases e : S.worths.lookup k with
    | none =>
      rw [nowS_none e]
      exact r
    | some v =>
      rw [nowS_some e]
      intro n en
      have r : o = some k := ro
      rw [r] at en
      cases en
      rw [s.worked, e]
      exact fun z => nomatch z
theorem Sim.held {S : NS} {A : AC} (s : Sim S A) (x : Str) : RT A (heldS S x) (A.heads x) := by
  refine RT.now s ?_
  have h := s.heads x
  cases e : S.heads x with
  | none =>
    rw [e] at h
    intro n en
    have h : A.heads x = none := h
    rw [h] at en
    cases en
  | some t =>
    rw [e] at h
    exact h
/-- the number a name holds, as long as it waits -/
theorem Sim.held_note {S : NS} {A : AC} (s : Sim S A) (x : Str) (n : Nat) : heldS S x = .note n ↔ A.heads x = some n ∧ unA A n := by
  constructor
  · intro e
    have h := s.held x
    rw [e] at h
    refine ⟨h, (s.un n).mp ?_⟩
    exact (now_note.mp e).2
  · rintro ⟨h1, h2⟩
    have h := s.held x
    rw [h1] at h
    cases e : heldS S x with
    | note k =>
      rw [e] at h
      have : some n = some k := h
      cases this
      rfl
    | worth v =>
      rw [e] at h
      exact absurd (h n rfl) h2
def keysOf (fr : List (Nat × V)) : List Nat := fr.map (·.1)
def Clo (S : NS) (T : Nat → Prop) : Prop := ∀ m p, T m → edS S m p → unS S p → T p
section
variable {P : Program} {w : World} {K : PySem.W.Frag} {mg : Str → Option Value} {base : Heap} {fm : Fam P w K mg base} {S S' : NS} {l l' : fm.L} {A A' : AC} {F : List (Str × Addr)} {ns : List Str}
theorem Wo.keys {ah : List Nat} {fr fr' : List (Nat × V)} (h : Wo fm S ah fr l fr' l') : (∀ a ∈ ah, unS S a) → (∀ k ∈ keysOf fr, k ∈ keysOf fr') ∧ (∀ a ∈ ah, a ∈ keysOf fr') ∧ (Clo S (· ∈ keysOf fr) → Clo S (· ∈ keysOf fr')) ∧ ∀ k ∈ keysOf fr', k ∈ keysOf fr ∨ ∃ a ∈ ah, Rch (edS S) (unS S) a k := by
  induction h with
  | done => exact fun _ => ⟨fun _ h => h, fun _ h => (nomatch h), id, fun _ h => .inl h⟩
  | @push k b ah bs fr fr' l l' m hk ho h ih =>
    intro hu
    have hb := mem_open.mp (show b ∈ openS S fr m.2 by rw [ho]; exact List.mem_cons_self)
    obtain ⟨i1, i2, i3, i4⟩ := ih (fun a ha => by
      rcases List.mem_cons.mp ha with rfl | ha
      · exact hb.2.1
      · exact hu a ha)
    refine ⟨i1, fun a ha => i2 a (List.mem_cons_of_mem _ ha), i3, fun j hj => ?_⟩
    rcases i4 j hj with h | ⟨a, ha, hr⟩
    · exact .inl h
    · rcases List.mem_cons.mp ha with rfl | ha
      · exact .inr ⟨k, List.mem_cons_self, .down (hu k List.mem_cons_self) ⟨m, hk, hb.1⟩ hr⟩
      · exact .inr ⟨a, ha, hr⟩
  | @call k ah fr fr' l l1 l' m v hk ho hc h ih =>
    intro hu
    obtain ⟨i1, i2, i3, i4⟩ := ih (fun a ha => hu a (List.mem_cons_of_mem _ ha))
    have ek : keysOf (fr ++ [(k, v)]) = keysOf fr ++ [k] := by
      unfold keysOf
      rw [List.map_append]
      rfl
    rw [ek] at i1 i3 i4
    refine ⟨fun j hj => i1 j (List.mem_append_left _ hj), fun a ha => ?_, fun hcl => i3 fun m' p hm' he hp => ?_, fun j hj => ?_⟩
    · rcases List.mem_cons.mp ha with rfl | ha
      · exact i1 a (List.mem_append_right _ List.mem_cons_self)
      · exact i2 a ha
    · rcases List.mem_append.mp hm' with h1 | h1
      · exact List.mem_append_left _ (hcl m' p h1 he hp)
      · rw [List.mem_singleton.mp h1] at he
        obtain ⟨mm, g1, g2⟩ := he
        rw [hk] at g1
        cases g1
        refine List.mem_append_left _ ?_
        cases e : fr.lookup p with
        | some u => exact List.mem_map.mpr ⟨(p, u), look_mem e, rfl⟩
        | none =>
          have : p ∈ openS S fr m.2 := mem_open.mpr ⟨g2, hp, e⟩
          rw [ho] at this
          cases this
    · rcases i4 j hj with h1 | ⟨a, ha, hr⟩
      · rcases List.mem_append.mp h1 with h1 | h1
        · exact .inl h1
        · rw [List.mem_singleton.mp h1]
          exact .inr ⟨k, List.mem_cons_self, .here (hu k List.mem_cons_self)⟩
      · exact .inr ⟨a, List.mem_cons_of_mem _ ha, hr⟩
/-- what is worked out freshly is what lies beneath -/
theorem Wo.beneath {x : Str} {fr : List (Nat × V)} (s : Sim S A) (h : Wo fm S (openS S [] [heldS S x]) [] l fr l') (n : Nat) : n ∈ keysOf fr ↔ Bn A x n := by
  have hu : ∀ a ∈ openS S [] [heldS S x], unS S a := fun a ha => (mem_open.mp ha).2.1
  obtain ⟨_, i2, i3, i4⟩ := h.keys hu
  constructor
  · intro hn
    rcases i4 n hn with h1 | ⟨a, ha, hr⟩
    · cases h1
    · have e := List.mem_singleton.mp (mem_open.mp ha).1
      exact ⟨a, ((s.held_note x a).mp e.symm).1, s.rch.mp hr⟩
  · rintro ⟨m, hm, hr⟩
    have e := (s.held_note x m).mpr ⟨hm, hr.un1⟩
    have hin : m ∈ openS S [] [heldS S x] := mem_open.mpr ⟨by rw [e]; exact List.mem_cons_self, (s.un m).mpr hr.un1, rfl⟩
    exact (s.rch.mpr hr).into (T := (· ∈ keysOf fr)) (i3 fun _ _ h => (nomatch h)) (i2 m hin)
theorem look_app {fr gr : List (Nat × V)} (n : Nat) : (fr ++ gr).lookup n = none ↔ fr.lookup n = none ∧ n ∉ keysOf gr := by
  rw [look_none, look_none, List.map_append, List.mem_append, not_or]
  exact Iff.rfl
theorem Sim.more {fr : List (Nat × V)} {fs : List Nat} (s : Sim S A) (h : ∀ n, n ∈ keysOf fr ↔ n ∈ fs) : Sim { S with worths := S.worths ++ fr } { A with worked := A.worked ++ fs } := by
  have mono : ∀ n, n ∈ A.worked → n ∈ A.worked ++ fs := fun n h => List.mem_append_left _ h
  refine ⟨s.len, fun k m hk => ?_, fun x => RTo.mono (A := A) (A' := { A with worked := A.worked ++ fs }) mono (s.heads x), fun n => ?_⟩
  · obtain ⟨ps, g1, g2⟩ := s.parts k m hk
    exact ⟨ps, g1, g2.imp fun _ _ r => RT.mono (A := A) (A' := { A with worked := A.worked ++ fs }) mono r⟩
  · show n ∈ A.worked ++ fs ↔ (S.worths ++ fr).lookup n ≠ none
    rw [List.mem_append, ← h n, s.worked]
    show ¬ S.worths.lookup n = none ∨ n ∈ keysOf fr ↔ ¬ (S.worths ++ fr).lookup n = none
    rw [look_app]
    constructor
    · rintro (h1 | h1) ⟨z1, z2⟩
      · exact h1 z1
      · exact z2 h1
    · intro h1
      by_cases h2 : S.worths.lookup n = none
      · right
        exact Decidable.byContradiction fun h3 => h1 ⟨h2, h3⟩
      · exact .inl h2
theorem Sim.setH {x : Str} {t : Th} {o : Option Nat} (s : Sim S A) (r : RT A t o) : Sim { S with heads := PM.setH S.heads x t } { A with heads := setO A.heads x o } := by
  refine ⟨s.len, s.parts, fun y => ?_, s.worked⟩
  show RTo A (PM.setH S.heads x t y) (setO A.heads x o y)
  by_cases e : y = x
  · rw [e, setO_same]
    unfold PM.setH
    rw [if_pos rfl]
    exact r
  · rw [setO_ne e]
    unfold PM.setH
    rw [if_neg e]
    exact s.heads y
theorem all2_maps {α β γ : Type} {R : β → γ → Prop} {f : α → β} {g : α → γ} (h : ∀ a, R (f a) (g a)) : ∀ as : List α, All2 R (as.map f) (as.map g)
  | [] => .nil
  | a :: as => .cons (h a) (all2_maps h as)
/-- a row, in both -/
theorem Sim.step {r : Rw} {m : List Mark} (s : Sim S A) (h : DoS fm S l r S' l') (k : AcDo A r A') : Sim { S' with trail := m } A' := by
  have key : Sim S' A' := by
    cases h with
    | note =>
      rename_i x o ps
      cases k
      have s1 : Sim { S with made := S.made ++ [(o, ps.map (heldS S))] } { A with parts := A.parts ++ [ps.map A.heads] } := by
        refine ⟨?_, fun k m hk => ?_, s.heads, s.worked⟩
        · show (S.made ++ [_]).length = (A.parts ++ [_]).length
          rw [List.length_append, List.length_append, s.len]
          rfl
        · have hk : (S.made ++ [(o, ps.map (heldS S))])[k]? = some m := hk
          by_cases e : k < S.made.length
          · rw [List.getElem?_append_left e] at hk
            obtain ⟨qs, g1, g2⟩ := s.parts k m hk
            refine ⟨qs, ?_, g2⟩
            show (A.parts ++ [ps.map A.heads])[k]? = some qs
            rw [List.getElem?_append_left (by rw [← s.len]; exact e)]
            exact g1
          · rw [List.getElem?_append_right (Nat.le_of_not_lt e)] at hk
            cases ek : k - S.made.length with
            | zero =>
              rw [ek] at hk
              cases hk
              refine ⟨ps.map A.heads, ?_, all2_maps (fun a => s.held a) ps⟩
              show (A.parts ++ [ps.map A.heads])[k]? = some _
              rw [List.getElem?_append_right (by rw [← s.len]; exact Nat.le_of_not_lt e), ← s.len, ek]
              rfl
            | succ j =>
              rw [ek] at hk
              cases hk
      have := s1.setH (x := x) (t := .note S.made.length) (o := some A.parts.length) (show some A.parts.length = some S.made.length by rw [s.len])
      exact this
    | copy =>
      cases k
      exact s.setH (s.held _)
    | give =>
      cases k
      exact s.setH (fun n e => by cases e)
    | ask hw hf =>
      cases k with
      | ask hb => exact s.more fun n => (hw.beneath s n).trans (hb n).symm
    | prt hw hf =>
      cases k with
      | prt hb =>
        have := s.more fun n => (hw.beneath s n).trans (hb n).symm
        exact ⟨this.len, this.parts, this.heads, this.worked⟩
    | either =>
      cases k
      exact s
    | again =>
      cases k
      exact s
  exact ⟨key.len, key.parts, key.heads, key.worked⟩
end
/-! ### what waits -/
theorem Me.keys {S : NS} {st : List Th} {ms r : List Nat} (h : Me S st ms r) : (∀ k ∈ ms, k ∈ r) ∧ (∀ t ∈ st, ∀ n, nowS S t = .note n → n ∈ r) ∧ ((∀ k ∈ ms, ∀ p, edS S k p → unS S p → p ∈ ms ∨ Th.note p ∈ st) → ∀ k ∈ r, ∀ p, edS S k p → unS S p → p ∈ r) ∧ ∀ k ∈ r, k ∈ ms ∨ ∃ t ∈ st, ∃ n, nowS S t = .note n ∧ Rch (edS S) (unS S) n k := by
  induction h with
  | done => exact ⟨fun _ h => h, fun _ h => (nomatch h), fun h k hk p e u => (h k hk p e u).elim id fun h => (nomatch h), fun _ h => .inl h⟩
  | @skip t st ms r hn h ih =>
    obtain ⟨i1, i2, i3, i4⟩ := ih
    refine ⟨i1, fun t2 ht n e => ?_, fun hc => i3 fun k hk p e u => ?_, fun k hk => ?_⟩
    · rcases List.mem_cons.mp ht with rfl | ht
      · exact i1 n (hn n e)
      · exact i2 t2 ht n e
    · rcases hc k hk p e u with h1 | h1
      · exact .inl h1
      · rcases List.mem_cons.mp h1 with h1 | h1
        · exact .inl (hn p (now_note.mpr ⟨h1.symm, u⟩))
        · exact .inr h1
    · rcases i4 k hk with h1 | ⟨t2, ht, n, e, hr⟩
      · exact .inl h1
      · exact .inr ⟨t2, List.mem_cons_of_mem _ ht, n, e, hr⟩
  | @meet t st ms r n m hn hm hk h ih =>
    obtain ⟨i1, i2, i3, i4⟩ := ih
    have hnn := now_note.mp hn
    have hnr : n ∈ r := i1 n (List.mem_append_right _ List.mem_cons_self)
    refine ⟨fun k hk => i1 k (List.mem_append_left _ hk), fun t2 ht j e => ?_, fun hc => i3 fun k hkm p e u => ?_, fun k hkr => ?_⟩
    · rcases List.mem_cons.mp ht with rfl | ht
      · rw [hn] at e
        cases e
        exact hnr
      · exact i2 t2 (List.mem_append_right _ ht) j e
    · rcases List.mem_append.mp hkm with h1 | h1
      · rcases hc k h1 p e u with h2 | h2
        · exact .inl (List.mem_append_left _ h2)
        · rcases List.mem_cons.mp h2 with h2 | h2
          · rw [← h2] at hnn
            have : p = n := by injection hnn.1
            rw [this]
            exact .inl (List.mem_append_right _ List.mem_cons_self)
          · exact .inr (List.mem_append_right _ h2)
      · rw [List.mem_singleton.mp h1] at e
        obtain ⟨mm, g1, g2⟩ := e
        rw [hk] at g1
        cases g1
        exact .inr (List.mem_append_left _ g2)
    · rcases i4 k hkr with h1 | ⟨t2, ht, j, e, hr⟩
      · rcases List.mem_append.mp h1 with h1 | h1
        · exact .inl h1
        · rw [List.mem_singleton.mp h1]
          exact .inr ⟨t, List.mem_cons_self, n, hn, .here hnn.2⟩
      · rcases List.mem_append.mp ht with h1 | h1
        · have h2 := now_note.mp e
          exact .inr ⟨t, List.mem_cons_self, n, hn, .down hnn.2 ⟨m, hk, by rw [← h2.1]; exact h1⟩ hr⟩
        · exact .inr ⟨t2, List.mem_cons_of_mem _ h1, j, e, hr⟩
theorem MetS.mem {S : NS} {A : AC} {ms : List Nat} (s : Sim S A) (h : MetS S ms) (n : Nat) : n ∈ ms ↔ ∃ x, Bn A x n := by
  obtain ⟨ys, ts, h1, h2, h3, h4, h5⟩ := h
  obtain ⟨i1, i2, i3, i4⟩ := h5.keys
  constructor
  · intro hn
    rcases i4 n hn with h | ⟨t, ht, m, e, hr⟩
    · cases h
    · obtain ⟨x, hx, ex⟩ := All2.mem2 h4 ht
      have h6 := now_note.mp e
      have h7 := s.heads x
      rw [ex, h6.1] at h7
      exact ⟨x, m, h7, s.rch.mp hr⟩
  · rintro ⟨x, m, hm, hr⟩
    have hu := hr.un1
    have h6 := (s.held_note x m).mpr ⟨hm, hu⟩
    have hr' := s.rch.mpr hr
    refine hr'.into (T := (· ∈ ms)) (fun k p hk e u => i3 (fun _ h => nomatch h) k hk p e u) ?_
    cases ex : S.heads x with
    | none =>
      have := s.heads x
      rw [ex] at this
      have this : A.heads x = none := this
      rw [hm] at this
      cases this
    | some t =>
      have hxy : x ∈ ys := (h3 x).mpr (by rw [ex]; exact fun z => nomatch z)
      obtain ⟨j, hj, ej⟩ := List.getElem_of_mem hxy
      obtain ⟨t2, ht2, e2⟩ := h4.getL (i := j) (by rw [List.getElem?_eq_getElem hj, ej])
      rw [ex] at e2
      cases e2
      refine i2 t (List.mem_of_getElem? ht2) m ?_
      have h8 : nowS S ((S.heads x).getD (.worth (.int 0))) = .note m := h6
      rw [ex] at h8
      exact h8
end PM
set_option Elab.async false
set_option linter.all false
set_option maxRecDepth 100000
set_option maxHeartbeats 4000000
/-! Who holds a note, row by row. -/
namespace PM
open PySem PySem.Spec PyProof.Rows L2 ZX ZR
theorem wfA0 : WfA AC0 := ⟨fun k ps h => (by cases h), fun x n h => (by cases h), fun n h => (nomatch h), fun ps h => (nomatch h)⟩
section
variable {A A' : AC} {n : Nat} {T T' : Str → Bool} {ys : List Str} {r : Rw}
/-- T: the names that hold n -/
def Hld (A : AC) (ys : List Str) (n : Nat) (T : Str → Bool) : Prop := ∀ x ∈ ys, T x = true ↔ Bn A x n
theorem more_rch {q : List (Option Nat)} (wf : WfA A) {h : Str → Option Nat} {m : Nat} (hm : m < A.parts.length) : Rch (edA { A with heads := h, parts := A.parts ++ [q] }) (unA { A with heads := h, parts := A.parts ++ [q] }) m n ↔ Rch (edA A) (unA A) m n := by
  constructor
  · intro hr
    induction hr with
    | here h => exact .here h
    | @down m p n hu e _ ih =>
      obtain ⟨ps, h1, h2⟩ := e
      have h1 : (A.parts ++ [q])[m]? = some ps := h1
      rw [List.getElem?_append_left hm] at h1
      exact .down hu ⟨ps, h1, h2⟩ (ih (Nat.lt_trans (wf.low _ _ h1 _ h2) hm))
  · refine Rch.mono (fun _ h => h) fun m p _ _ e => ?_
    obtain ⟨ps, h1, h2⟩ := e
    refine ⟨ps, ?_, h2⟩
    show (A.parts ++ [q])[m]? = some ps
    rw [List.getElem?_append_left (List.getElem?_eq_some_iff.mp h1).1]
    exact h1
theorem head_rch {h : Str → Option Nat} {m : Nat} : Rch (edA { A with heads := h }) (unA { A with heads := h }) m n ↔ Rch (edA A) (unA A) m n := Iff.rfl
theorem bn_heads {h : Str → Option Nat} {x y : Str} (e : h y = A.heads x) : Bn A x n ↔ Bn { A with heads := h } y n := by
  constructor
  · rintro ⟨m, hm, hr⟩
    exact ⟨m, e.trans hm, hr⟩
  · rintro ⟨m, hm, hr⟩
    exact ⟨m, e.symm.trans hm, hr⟩
theorem putS_at {S : Str → Bool} {x : Str} {b : Bool} : putS S x b x = b := by
  unfold putS
  simp
theorem putS_of {S : Str → Bool} {x y : Str} {b : Bool} (h : ¬ y = x) : putS S x b y = S y := by
  unfold putS
  simp [h]
/-- working out what lies beneath x leaves the rest as it is -/
theorem ask_rch {x : Str} {fs : List Nat} (hf : ∀ k, k ∈ fs ↔ Bn A x k) (hn : ¬ Bn A x n) {m : Nat} : Rch (edA { A with worked := A.worked ++ fs }) (unA { A with worked := A.worked ++ fs }) m n ↔ Rch (edA A) (unA A) m n := by
  constructor
  · exact Rch.mono (fun k h z => h (List.mem_append_left _ z)) fun _ _ _ _ e => e
  · intro hr
    have key : ∀ {k : Nat}, Rch (edA A) (unA A) k n → unA { A with worked := A.worked ++ fs } k := fun {k} hk z => by
      rcases List.mem_append.mp z with z | z
      · exact hk.un1 z
      · obtain ⟨j, hj, hr⟩ := (hf k).mp z
        exact hn ⟨j, hj, hr.trans hk⟩
    induction hr with
    | here h => exact .here (key (.here h))
    | down hu e h ih => exact .down (key (.down hu e h)) e (ih hn key)
theorem hld_ask {x : Str} {fs : List Nat} (hf : ∀ k, k ∈ fs ↔ Bn A x k) (hu : unA A n) (hx : x ∈ ys) (hT : Hld A ys n T) : (T x = true → n ∈ A.worked ++ fs) ∧ (¬ T x = true → unA { A with worked := A.worked ++ fs } n ∧ Hld { A with worked := A.worked ++ fs } ys n T) := by
  refine ⟨fun e => List.mem_append_right _ ((hf n).mpr ((hT x hx).mp e)), fun e => ?_⟩
  have hb : ¬ Bn A x n := fun z => e ((hT x hx).mpr z)
  refine ⟨fun z => ?_, fun y hy => (hT y hy).trans ?_⟩
  · rcases List.mem_append.mp z with z | z
    · exact hu z
    · exact hb ((hf n).mp z)
  · constructor
    · rintro ⟨m, hm, hr⟩
      exact ⟨m, hm, (ask_rch hf hb).mpr hr⟩
    · rintro ⟨m, hm, hr⟩
      exact ⟨m, hm, (ask_rch hf hb).mp hr⟩
theorem hld_step (wf : WfA A) (h : AcDo A r A') (hn : n < A.parts.length) (hu : unA A n) (hr : ∀ x ∈ namesR r, x ∈ ys) (hT : Hld A ys n T) : (moveS r T = none → n ∈ A'.worked) ∧ ∀ T', moveS r T = some T' → unA A' n ∧ Hld A' ys n T' := by
  cases h with
  | note h3 =>
    rename_i x o ps
    refine ⟨fun e => (by cases e), fun T' e => ?_⟩
    cases e
    refine ⟨hu, fun y hy => ?_⟩
    have hps : ∀ z ∈ ps, z ∈ ys := fun z hz => hr z (List.mem_cons_of_mem _ hz)
    by_cases e : y = x
    · subst e
      rw [putS_at, List.any_eq_true]
      constructor
      · rintro ⟨z, hz, tz⟩
        obtain ⟨p, hp, hrch⟩ := (hT z (hps z hz)).mp tz
        refine ⟨A.parts.length, setO_same, .down (fun z => ?_) ⟨ps.map A.heads, ?_, ?_⟩ ((more_rch wf (wf.hlow z p hp)).mpr hrch)⟩
        · exact absurd (wf.wlow _ z) (Nat.lt_irrefl _)
        · show (A.parts ++ [ps.map A.heads])[A.parts.length]? = _
          rw [List.getElem?_append_right (Nat.le_refl _), Nat.sub_self]
          rfl
        · rw [← hp]
          exact List.mem_map_of_mem hz
      · rintro ⟨m, hm, hrch⟩
        have hm : setO A.heads y (some A.parts.length) y = some m := hm
        rw [setO_same] at hm
        cases hm
        cases hrch with
        | here _ => exact absurd hn (Nat.lt_irrefl _)
        | down _ e hrch =>
          obtain ⟨qs, h1, h2⟩ := e
          have h1 : (A.parts ++ [ps.map A.heads])[A.parts.length]? = some qs := h1
          rw [List.getElem?_append_right (Nat.le_refl _), Nat.sub_self] at h1
          cases h1
          obtain ⟨z, hz, ez⟩ := List.mem_map.mp h2
          exact ⟨z, hz, (hT z (hps z hz)).mpr ⟨_, ez, (more_rch wf (wf.hlow z _ ez)).mp hrch⟩⟩
    · rw [putS_of e]
      refine (hT y hy).trans ?_
      constructor
      · rintro ⟨m, hm, hrch⟩
        exact ⟨m, (setO_ne e).trans hm, (more_rch wf (wf.hlow y m hm)).mpr hrch⟩
      · rintro ⟨m, hm, hrch⟩
        have hm : setO A.heads x (some A.parts.length) y = some m := hm
        rw [setO_ne e] at hm
        exact ⟨m, hm, (more_rch wf (wf.hlow y m hm)).mp hrch⟩
  | copy =>
    rename_i x z
    refine ⟨fun e => (by cases e), fun T' e => ?_⟩
    cases e
    refine ⟨hu, fun y hy => ?_⟩
    have hz : z ∈ ys := hr z (List.mem_cons_of_mem _ List.mem_cons_self)
    by_cases e : y = x
    · subst e
      rw [putS_at]
      refine (hT z hz).trans ?_
      exact bn_heads setO_same
    · rw [putS_of e]
      refine (hT y hy).trans ?_
      exact bn_heads (setO_ne e)
  | give =>
    rename_i x i
    refine ⟨fun e => (by cases e), fun T' e => ?_⟩
    cases e
    refine ⟨hu, fun y hy => ?_⟩
    by_cases e : y = x
    · subst e
      rw [putS_at]
      refine ⟨fun z => (by cases z), ?_⟩
      rintro ⟨m, hm, _⟩
      have hm : setO A.heads y none y = some m := hm
      rw [setO_same] at hm
      cases hm
    · rw [putS_of e]
      refine (hT y hy).trans ?_
      exact bn_heads (setO_ne e)
  | ask hf =>
    rename_i x fs
    obtain ⟨h1, h2⟩ := hld_ask hf hu (hr x List.mem_cons_self) hT
    refine ⟨fun e => h1 ?_, fun T' e => ?_⟩
    · have e : (if T x then none else some T) = none := e
      split at e
      · assumption
      · cases e
    · have e : (if T x then none else some T) = some T' := e
      split at e
      · cases e
      · cases e
        exact h2 (by assumption)
  | prt hf =>
    rename_i x fs
    obtain ⟨h1, h2⟩ := hld_ask hf hu (hr x List.mem_cons_self) hT
    refine ⟨fun e => h1 ?_, fun T' e => ?_⟩
    · have e : (if T x then none else some T) = none := e
      split at e
      · assumption
      · cases e
    · have e : (if T x then none else some T) = some T' := e
      split at e
      · cases e
      · cases e
        exact h2 (by assumption)
  | either => exact ⟨fun e => (by cases e), fun T' e => by cases e; exact ⟨hu, hT⟩⟩
  | again => exact ⟨fun e => (by cases e), fun T' e => by cases e; exact ⟨hu, hT⟩⟩
end
/-- rows done one behind another -/
inductive AcRun (rows : List Rw) : AC → List Nat → AC → Prop
  | done {A : AC} : AcRun rows A [] A
  | step {A A1 A2 : AC} {p : Nat} {ps : List Nat} {r : Rw} (hr : rows[p]? = some r) (hd : AcDo A r A1) (h : AcRun rows A1 ps A2) : AcRun rows A (p :: ps) A2
section
variable {rows : List Rw} {A A' A2 : AC} {ps qs : List Nat} {n : Nat} {ys : List Str} {T : Str → Bool}
theorem AcRun.wf (h : AcRun rows A ps A') : WfA A → WfA A' := by
  induction h with
  | done => exact id
  | step _ hd _ ih => exact fun wf => ih (wf.step hd)
theorem AcDo.grow {r : Rw} (h : AcDo A r A') : (∀ n ∈ A.worked, n ∈ A'.worked) ∧ A.parts.length ≤ A'.parts.length ∧ A'.parts.length ≤ A.parts.length + 1 := by
  cases h
  case note => exact ⟨fun _ h => h, by show _ ≤ (_ ++ [_]).length; rw [List.length_append]; exact Nat.le_succ _, by show (_ ++ [_]).length ≤ _; rw [List.length_append]; exact Nat.le_refl _⟩
  case ask => exact ⟨fun _ h => List.mem_append_left _ h, Nat.le_refl _, Nat.le_succ _⟩
  case prt => exact ⟨fun _ h => List.mem_append_left _ h, Nat.le_refl _, Nat.le_succ _⟩
  all_goals exact ⟨fun _ h => h, Nat.le_refl _, Nat.le_succ _⟩
theorem AcRun.grow (h : AcRun rows A ps A') : (∀ n ∈ A.worked, n ∈ A'.worked) ∧ A.parts.length ≤ A'.parts.length ∧ A'.parts.length ≤ A.parts.length + ps.length := by
  induction h with
  | done => exact ⟨fun _ h => h, Nat.le_refl _, Nat.le_refl _⟩
  | step _ hd _ ih =>
    obtain ⟨g1, g2, g3⟩ := hd.grow
    exact ⟨fun n h => ih.1 n (g1 n h), Nat.le_trans g2 ih.2.1, Nat.le_trans ih.2.2 (by rw [List.length_cons]; omega)⟩
theorem AcRun.app (h : AcRun rows A ps A') : AcRun rows A' qs A2 → AcRun rows A (ps ++ qs) A2 := by
  induction h with
  | done => exact id
  | step hr hd _ ih => exact fun k => .step hr hd (ih k)
end
end PM
namespace K24
open PySem PySem.Spec PyProof.Rows L2 ZX PM ZR
section
variable {rows : List Rw} {A A' : AC} {ps : List Nat} {n : Nat} {ys : List Str} {T : Str → Bool}
/-- who holds n, along a way -/
theorem hld_along (h : AcRun rows A ps A') : WfA A → n < A.parts.length → unA A n → (∀ r ∈ rows, ∀ x ∈ namesR r, x ∈ ys) → ∀ T, Hld A ys n T → (alongS rows ps (some T) = none → n ∈ A'.worked) ∧ ∀ T', alongS rows ps (some T) = some T' → unA A' n ∧ Hld A' ys n T' := by
  induction h with
  | done => exact fun _ _ hu _ T hT => ⟨fun e => (by cases e), fun T' e => by cases e; exact ⟨hu, hT⟩⟩
  | @step A A1 A2 p ps r hr hd h ih =>
    intro wf hn hu hrows T hT
    obtain ⟨s1, s2⟩ := hld_step wf hd hn hu (hrows r (List.mem_of_getElem? hr)) hT
    have e : alongS rows (p :: ps) (some T) = alongS rows ps (moveS r T) := by
      show alongS rows ps ((some T).bind fun S => (rows[p]?).bind fun r => moveS r S) = _
      rw [hr]
      rfl
    rw [e]
    cases em : moveS r T with
    | none =>
      rw [alongS_none]
      exact ⟨fun _ => h.grow.1 n (s1 em), fun T' z => (by cases z)⟩
    | some T1 =>
      obtain ⟨u1, t1⟩ := s2 T1 em
      exact ih (wf.step hd) (Nat.lt_of_lt_of_le hn hd.grow.2.1) u1 hrows T1 t1
end
end K24
set_option Elab.async false
set_option linter.all false
set_option maxRecDepth 100000
set_option maxHeartbeats 4000000
/-! The law's account in the heap; _law_beneath. -/
namespace PM
open PySem PySem.Spec PyProof.Rows L2 ZX ZR
def opV : Option Nat → V
  | some n => .int (n : Nat)
  | none => .non
/-- the addresses of an account -/
structure AcA where
  a : Addr
  hd : Addr
  pa : Addr
  wk : Addr
def acKV (B : AcA) : List (Key × V) := [(.inr "heads", .ref B.hd), (.inr "parts", .ref B.pa), (.inr "worked", .ref B.wk)]
theorem acV1 {B : AcA} : valV (acKV B) (.inr "heads") = some (.ref B.hd) := valV_pos rfl
theorem acV2 {B : AcA} : valV (acKV B) (.inr "parts") = some (.ref B.pa) := by
  unfold acKV
  rw [valV_neg (show ¬ (Sum.inr ("heads" : Str) : Key) = .inr "parts" by decide +kernel), valV_pos rfl]
theorem acV3 {B : AcA} : valV (acKV B) (.inr "worked") = some (.ref B.wk) := by
  unfold acKV
  rw [valV_neg (show ¬ (Sum.inr ("heads" : Str) : Key) = .inr "worked" by decide +kernel), valV_neg (show ¬ (Sum.inr ("parts" : Str) : Key) = .inr "worked" by decide +kernel), valV_pos rfl]
def wkKV (ws : List Nat) : List (Key × V) := ws.map fun (n : Nat) => (.inl (n : Int), .bl true)
theorem wk_in {ws : List Nat} {n : Nat} : (valV (wkKV ws) (.inl (n : Int))).isSome = decide (n ∈ ws) := by
  have hk : (wkKV ws).map (·.1) = ws.map fun (n : Nat) => (Sum.inl (n : Int) : Key) := by
    unfold wkKV
    rw [List.map_map]
    rfl
  cases e : valV (wkKV ws) (.inl (n : Int)) with
  | none =>
    have := valV_not e
    rw [hk] at this
    exact (decide_eq_false fun h => this (List.mem_map_of_mem h)).symm
  | some v =>
    have := valV_in e
    rw [hk] at this
    obtain ⟨m, hm, e2⟩ := List.mem_map.mp this
    have : m = n := by injection e2 with e3; omega
    exact (decide_eq_true (by rw [← this]; exact hm)).symm
def PtAt (H : Hp) (b : Addr) (u : V) (ps : List (Option Nat)) : Prop := ∃ p, u = .ref p ∧ p ≠ b ∧ H p = some (.lst (ps.map opV))
/-- the account A stands at B; k: how many names it has at most -/
structure AcAt (H : Hp) (B : AcA) (A : AC) (k : Nat) : Prop where
  ha : H B.a = some (.dK (acKV B))
  hh : ∃ kvs, H B.hd = some (.dK kvs) ∧ kvs.length ≤ k ∧ ∀ x, (valV kvs (.inr x)).getD .non = opV (A.heads x)
  hp : ∃ us, H B.pa = some (.lst us) ∧ All2 (PtAt H B.pa) us A.parts
  hw : H B.wk = some (.dK (wkKV A.worked))
  wn : A.worked.Nodup
  d1 : B.hd ≠ B.wk
  d2 : B.a ≠ B.hd
  d3 : B.a ≠ B.wk
section
variable {H H' : Hp} {B : AcA} {A : AC} {k : Nat}
theorem AcAt.same (s : Same H H') (h : AcAt H B A k) : AcAt H' B A k := by
  obtain ⟨kvs, h1, h2, h3⟩ := h.hh
  obtain ⟨us, g1, g2⟩ := h.hp
  exact ⟨s _ _ h.ha, ⟨kvs, s _ _ h1, h2, h3⟩, ⟨us, s _ _ g1, g2.imp fun _ _ r => by obtain ⟨p, e, n, q⟩ := r; exact ⟨p, e, n, s _ _ q⟩⟩, s _ _ h.hw, h.wn, h.d1, h.d2, h.d3⟩
theorem AcAt.g1 (h : AcAt H B A k) : DGet H B.a (.str "heads") (some (.ref B.hd)) := by
  have := DGet.k (k := .inr "heads") h.ha
  rw [acV1] at this
  exact this
theorem AcAt.g2 (h : AcAt H B A k) : DGet H B.a (.str "parts") (some (.ref B.pa)) := by
  have := DGet.k (k := .inr "parts") h.ha
  rw [acV2] at this
  exact this
theorem AcAt.g3 (h : AcAt H B A k) : DGet H B.a (.str "worked") (some (.ref B.wk)) := by
  have := DGet.k (k := .inr "worked") h.ha
  rw [acV3] at this
  exact this
end
theorem flat_natV (l : List Nat) : (natV l).all flatV = true := by
  induction l with
  | nil => rfl
  | cons _ _ ih => exact ih
end PM
namespace K24
open PySem PySem.Spec PyProof.Rows L2 ZX PM ZR
abbrev sLBeneath : Stmt := top 77
section
variable {P : Program} {w : World} {K : PySem.W.Frag} {mg : Str → Option Value} {base : Heap}
def spLBeneath (K : PySem.W.Frag) : Sp := fun vs H Q _ => ∃ (B : AcA) (A : AC) (k : Nat) (x : Str), vs = [.ref B.a, .str x] ∧ AcAt H B A k ∧ WfA A ∧ A.parts.length ≤ 1000 ∧ ∀ q fs H', Same H H' → H q = none → H' q = some (.lst (natV fs)) → fs.Nodup → (∀ n, n ∈ fs ↔ Bn A x n) → Q (.ref q) H'
abbrev NBe : List Str := ["_law_account", "_law_name", "_law_found", "_law_pile", "_law_number"]
theorem scLBeneath : FnScope NBe ["_law_account", "_law_name"] (defScope sLBeneath) := ⟨rfl, rfl, rfl, by decide +kernel, rfl, by decide +kernel, by decide +kernel⟩
theorem ok_lbeneath {f : Addr} {fd : FuncData} (F : FnP K "_law_beneath" sLBeneath f fd) (T : Bi mg) : FnOk P w K mg base CX0 1 f fd ["_law_account", "_law_name"] (spLBeneath K) := by
  refine F.ok scLBeneath (fun vs H Q E h => ?_) (fun cdv A0 outer s H vs Q E hr h => ?_)
  · obtain ⟨B, A, k, x, rfl, _⟩ := h
    rfl
  · obtain ⟨B, A, kk, x, rfl, hA, wf, h1000, k⟩ := h
    have hu := hu_of hr
    refine ⟨_, PSs.nox (pss_cut (ps_set (i := 2) scLBeneath.nd rfl (Or.inl rfl) (pe_lst pa_nil))
    (pss_cut (ps_set (i := 3) scLBeneath.nd rfl (Or.inl rfl) (pe_lst (pa_cons (pe_dget2 hu (pe_dget hu (pv 0) pe_str (fun _ _ => rfl)) (pv 1) pe_non ⟨rfl, rfl, rfl, rfl⟩) pa_nil)))
    (pss_cons (ps_while PassesOwn.never (pt_cmpR op_gt (pe_callB call_len_seq (by rfl) T.b_len (by decide +kernel) (pa_cons (pv 3) pa_nil)) pe_int (nomark _)) (pss_cons (ps_set (i := 4) scLBeneath.nd rfl (Or.inl rfl) (pe_bm0 PySem.F.plainAttrs_list PySem.F.slot_list_pop PySem.F.type_list_pop mt_pop (pv 3)))
      (pss_one (ps_if (PW.pt (pw_and (pt_cmpR op_notN (pv 4) pe_non (nomark _)) (pw_and (pt_cmp (pc_dnotin hu (pv 4) (pe_dget hu (pv 0) pe_str (fun _ _ => rfl)))) (pw_and1 (pt_cmpR op_notIn_seq (pv 4) (pv 2) (by with_unfolding_all rfl)))))) (pss_cons (ps_expr (pe_bm PySem.F.plainAttrs_list PySem.F.slot_list_append PySem.F.type_list_append mt_append (pv 2) (pa_cons (pv 4) pa_nil)))
        (pss_one (ps_expr (pe_bm PySem.F.plainAttrs_list PySem.F.slot_list_extend PySem.F.type_list_extend mt_extend (pv 3) (pa_cons (pe_ix ix_list (pe_dget hu (pv 0) pe_str (fun _ _ => rfl)) (pv 4) (fun _ _ => rfl)) pa_nil))))) pss_nil))))
    (pss_one (ps_ret (pv 2)))))), ?_⟩
    refine ⟨fun σ1 H1 => ∃ fo, σ1 = [some (.ref B.a), some (.str x), some (.ref fo), none, none] ∧ H fo = none ∧ Same H H1 ∧ H1 fo = some (.lst (natV [])), ⟨by decide, fun fo nf => ⟨fo, rfl, nf, same_new nf, upd_same⟩⟩, ?_⟩
    rintro σ1 H1 ⟨fo, rfl, nfo, s1, hfo1⟩
    have hA1 := hA.same s1
    refine ⟨fun σ2 H2 => ∃ pl, σ2 = [some (.ref B.a), some (.str x), some (.ref fo), some (.ref pl), none] ∧ H1 pl = none ∧ Same H1 H2 ∧ H2 pl = some (.lst [opV (A.heads x)]), ?_, ?_⟩
    · obtain ⟨kvs, h1, h2, h3⟩ := hA1.hh
      refine ⟨_, rfl, B.a, _, rfl, hA1.g1, B.hd, rfl, .inl ⟨_, .inl h1⟩, _, rfl, _, DGet.k (k := .inr x) h1, ?_⟩
      refine ⟨by show 1 ≤ sizeLine; decide, fun pl npl => ⟨pl, rfl, npl, same_new npl, ?_⟩⟩
      rw [upd_same, ← h3 x]
    rintro σ2 H2 ⟨pl, rfl, npl, s2, hpl2⟩
    have hfo2 := s2 _ _ hfo1
    have fpl : fo ≠ pl := ne_of_none hfo1 npl
    have npl0 : H pl = none := s1.free npl
    refine ⟨fun n σ' H' => ∃ (st : List (Option Nat)) (fs : List Nat) (y4 : Option V), σ' = [some (.ref B.a), some (.str x), some (.ref fo), some (.ref pl), y4] ∧ Same H H' ∧ H' pl = some (.lst (st.reverse.map opV)) ∧ H' fo = some (.lst (natV fs)) ∧ fs.Nodup ∧
      (∀ n ∈ fs, n < A.parts.length ∧ Bn A x n) ∧ (∀ n, some n ∈ st → n < A.parts.length ∧ (unA A n → Bn A x n)) ∧ (∀ m ∈ fs, ∀ p, edA A m p → unA A p → p ∈ fs ∨ some p ∈ st) ∧ (∀ m, A.heads x = some m → unA A m → m ∈ fs ∨ some m ∈ st) ∧ st.length ≤ 1 + 3 * fs.length ∧ n = (A.parts.length - fs.length) * 4 + st.length,
      ⟨_, [A.heads x], [], none, rfl, s1.trans s2, hpl2, hfo2, List.nodup_nil, fun _ h => (nomatch h), fun n hn => ?_, fun _ h => (nomatch h), fun m hm _ => .inr (by rw [hm]; exact List.mem_cons_self), Nat.le_refl _, rfl⟩, ?_⟩
    · have e := (List.mem_singleton.mp hn).symm
      exact ⟨wf.hlow x n e, fun hu => ⟨n, e, .here hu⟩⟩
    rintro n σ' H' ⟨st, fs, y4, rfl, sm, hpl, hfo, hnd, i1, i2, i3, i4, hsz, rfl⟩
    have hA' := hA.same sm
    refine ⟨_, rfl, pl, _, rfl, .inl (SqL.of hpl), _, _, rfl, rfl, _, rfl, ?_⟩
    cases st with
    | nil =>
      refine ifDF (show ¬ (((([] : List (Option Nat)).reverse.map opV).length : Nat) : Int) > 0 from Int.lt_irrefl 0) ⟨_, rfl, k fo fs H' sm nfo hfo hnd fun n => ⟨fun hn => (i1 n hn).2, ?_⟩⟩
      rintro ⟨m, hm, hr⟩
      refine hr.into (T := (· ∈ fs)) (fun a p ha e u => (i3 a ha p e u).elim id fun h => nomatch h) ?_
      exact (i4 m hm hr.un1).elim id fun h => nomatch h
    | cons o st =>
    have hrev : (o :: st).reverse.map opV = st.reverse.map opV ++ [opV o] := by
      rw [List.reverse_cons, List.map_append]
      rfl
    rw [hrev] at hpl ⊢
    refine ifD (show (((st.reverse.map opV ++ [opV o]).length : Nat) : Int) > 0 by rw [List.length_append, List.length_singleton]; omega) ?_
    refine ⟨fun σ3 H3 => ∃ m', m' < (A.parts.length - fs.length) * 4 + (o :: st).length ∧ ∃ (st : List (Option Nat)) (fs : List Nat) (y4 : Option V), σ3 = [some (.ref B.a), some (.str x), some (.ref fo), some (.ref pl), y4] ∧ Same H H3 ∧ H3 pl = some (.lst (st.reverse.map opV)) ∧ H3 fo = some (.lst (natV fs)) ∧ fs.Nodup ∧
      (∀ n ∈ fs, n < A.parts.length ∧ Bn A x n) ∧ (∀ n, some n ∈ st → n < A.parts.length ∧ (unA A n → Bn A x n)) ∧ (∀ m ∈ fs, ∀ p, edA A m p → unA A p → p ∈ fs ∨ some p ∈ st) ∧ (∀ m, A.heads x = some m → unA A m → m ∈ fs ∨ some m ∈ st) ∧ st.length ≤ 1 + 3 * fs.length ∧ m' = (A.parts.length - fs.length) * 4 + st.length, fun _ _ h => h, ?_⟩
    have hsz' : st.length + 1 ≤ 1 + 3 * fs.length := hsz
    refine ⟨_, rfl, .inl ⟨rfl, _, SqL.of hpl⟩, pl, _, opV o, rfl, rfl, hpl, by simp, ?_⟩
    rw [List.dropLast_concat]
    have s3 : Same H (upd H' pl (.lst (st.reverse.map opV))) := same_putN sm npl0
    have hA3 := hA.same s3
    have hfo3 : upd H' pl (.lst (st.reverse.map opV)) fo = some (.lst (natV fs)) := (upd_ne fpl).trans hfo
    -- nothing is found
    have skip : (∀ m, o = some m → m ∈ fs ∨ ¬ unA A m) → ∃ m', m' < (A.parts.length - fs.length) * 4 + (o :: st).length ∧ ∃ (st' : List (Option Nat)) (fs' : List Nat) (y4 : Option V), [some (V.ref B.a), some (.str x), some (.ref fo), some (.ref pl), some (opV o)] = [some (.ref B.a), some (.str x), some (.ref fo), some (.ref pl), y4] ∧ Same H (upd H' pl (.lst (st.reverse.map opV))) ∧ (upd H' pl (.lst (st.reverse.map opV))) pl = some (.lst (st'.reverse.map opV)) ∧ (upd H' pl (.lst (st.reverse.map opV))) fo = some (.lst (natV fs')) ∧ fs'.Nodup ∧
      (∀ n ∈ fs', n < A.parts.length ∧ Bn A x n) ∧ (∀ n, some n ∈ st' → n < A.parts.length ∧ (unA A n → Bn A x n)) ∧ (∀ m ∈ fs', ∀ p, edA A m p → unA A p → p ∈ fs' ∨ some p ∈ st') ∧ (∀ m, A.heads x = some m → unA A m → m ∈ fs' ∨ some m ∈ st') ∧ st'.length ≤ 1 + 3 * fs'.length ∧ m' = (A.parts.length - fs'.length) * 4 + st'.length := fun hs => by
      refine ⟨_, ?_, st, fs, _, rfl, s3, upd_same, hfo3, hnd, i1, fun n hn => i2 n (List.mem_cons_of_mem _ hn), fun m hm p e u => ?_, fun m hm u => ?_, by omega, rfl⟩
      · show _ + st.length < _ + (st.length + 1)
        omega
      · rcases i3 m hm p e u with h | h
        · exact .inl h
        · rcases List.mem_cons.mp h with h | h
          · exact .inl ((hs p h.symm).resolve_right fun z => z u)
          · exact .inr h
      · rcases i4 m hm u with h | h
        · exact .inl h
        · rcases List.mem_cons.mp h with h | h
          · exact .inl ((hs m h.symm).resolve_right fun z => z u)
          · exact .inr h
    cases o with
    | none => exact ⟨_, rfl, rfl, false, rfl, skip fun m e => (by cases e)⟩
    | some m =>
      refine ⟨_, rfl, rfl, true, rfl, ?_⟩
      have hg := DGet.k (k := .inl (m : Int)) hA3.hw
      refine ⟨_, rfl, _, rfl, B.a, _, rfl, hA3.g3, B.wk, _, rfl, hg, _, rfl, ?_⟩
      rw [wk_in]
      by_cases hw : m ∈ A.worked
      · rw [decide_eq_true hw]
        exact ifBF rfl (skip fun j e => by cases e; exact .inr fun z => z hw)
      · rw [decide_eq_false hw]
        refine ifB rfl ⟨_, rfl, _, rfl, fo, _, rfl, .inl (SqL.of hfo3), rfl, flat_natV fs, _, rfl, ?_⟩
        rw [show inV (opV (some m)) (natV fs) = decide (m ∈ fs) from inV_ints m fs]
        by_cases hf : m ∈ fs
        · rw [decide_eq_true hf]
          exact ifBF rfl (skip fun j e => by cases e; exact .inl hf)
        · rw [decide_eq_false hf]
          have him := i2 m List.mem_cons_self
          have hbn := him.2 hw
          have hfl : fs.length < A.parts.length := by
            have := nodup_lt (n := A.parts.length) (l := m :: fs) (List.nodup_cons.mpr ⟨hf, hnd⟩) (fun j hj => by
              rcases List.mem_cons.mp hj with rfl | hj
              · exact him.1
              · exact (i1 j hj).1)
            exact this
          refine ifB rfl ⟨_, rfl, .inl ⟨rfl, _, SqL.of hfo3⟩, _, rfl, fo, _, _, rfl, rfl, hfo3, ?_, ?_⟩
          · unfold natV
            rw [List.length_map]
            exact Nat.lt_of_lt_of_le hfl (Nat.le_trans h1000 (by decide))
          have hpl4 : upd (upd H' pl (.lst (st.reverse.map opV))) fo (.lst (natV fs ++ [opV (some m)])) pl = some (.lst (st.reverse.map opV)) := (upd_ne (Ne.symm fpl)).trans upd_same
          have s4 : Same H (upd (upd H' pl (.lst (st.reverse.map opV))) fo (.lst (natV fs ++ [opV (some m)]))) := same_putN s3 nfo
          have hA4 := hA.same s4
          obtain ⟨us, g1, g2⟩ := hA4.hp
          have hget : A.parts[m]? = some A.parts[m] := List.getElem?_eq_getElem him.1
          obtain ⟨u, hu0, p, rfl, np, hp⟩ := g2.getR hget
          have h3 := wf.three _ (List.mem_of_getElem? hget)
          refine ⟨_, rfl, .inl ⟨rfl, _, SqL.of hpl4⟩, _, rfl, B.a, _, rfl, hA4.g2, _, rfl, B.pa, us, _, _, rfl, rfl, SqL.of g1, atI_nat hu0, pl, p, _, _, rfl, rfl, hpl4, hp, ?_, ?_⟩
          · rw [List.length_map, List.length_map, List.length_reverse]
            exact Nat.le_trans (show st.length + A.parts[m].length ≤ 10000 by omega) (by decide)
          refine ⟨_, ?_, A.parts[m].reverse ++ st, fs ++ [m], _, rfl, same_putN s4 npl0, ?_, ?_, ?_, ?_, ?_, ?_, ?_, ?_, rfl⟩
          · show (A.parts.length - (fs ++ [m]).length) * 4 + (A.parts[m].reverse ++ st).length < (A.parts.length - fs.length) * 4 + (st.length + 1)
            rw [List.length_append, List.length_append, List.length_singleton, List.length_reverse]
            omega
          · rw [upd_same, List.reverse_append, List.reverse_reverse, List.map_append]
          · refine (upd_ne fpl).trans ?_
            rw [upd_same, natV_snoc]
            rfl
          · exact List.nodup_append.mpr ⟨hnd, by simp, fun a ha b hb e => hf (by rw [List.mem_singleton.mp hb] at e; rw [← e]; exact ha)⟩
          · intro j hj
            rcases List.mem_append.mp hj with hj | hj
            · exact i1 j hj
            · rw [List.mem_singleton.mp hj]
              exact ⟨him.1, hbn⟩
          · intro j hj
            rcases List.mem_append.mp hj with hj | hj
            · have hj' := List.mem_reverse.mp hj
              refine ⟨Nat.lt_trans (wf.low _ _ hget _ hj') him.1, fun u => ?_⟩
              obtain ⟨m0, hm0, hr0⟩ := hbn
              exact ⟨m0, hm0, hr0.trans (.down hw ⟨_, hget, hj'⟩ (.here u))⟩
            · exact i2 j (List.mem_cons_of_mem _ hj)
          · intro a ha q e u
            rcases List.mem_append.mp ha with ha | ha
            · rcases i3 a ha q e u with h | h
              · exact .inl (List.mem_append_left _ h)
              · rcases List.mem_cons.mp h with h | h
                · cases h
                  exact .inl (List.mem_append_right _ List.mem_cons_self)
                · exact .inr (List.mem_append_right _ h)
            · rw [List.mem_singleton.mp ha] at e
              obtain ⟨qs, e1, e2⟩ := e
              rw [hget] at e1
              cases e1
              exact .inr (List.mem_append_left _ (List.mem_reverse.mpr e2))
          · intro a ha u
            rcases i4 a ha u with h | h
            · exact .inl (List.mem_append_left _ h)
            · rcases List.mem_cons.mp h with h | h
              · cases h
                exact .inl (List.mem_append_right _ List.mem_cons_self)
              · exact .inr (List.mem_append_right _ h)
          · rw [List.length_append, List.length_append, List.length_singleton, List.length_reverse]
            omega
end
end K24
set_option Elab.async false
set_option linter.all false
set_option maxRecDepth 100000
set_option maxHeartbeats 4000000
/-! The law's _law_do. -/
namespace PM
open PySem PySem.Spec PyProof.Rows L2 ZX ZR
def AcA.own (B : AcA) : List Addr := [B.hd, B.pa, B.wk]
section
variable {H H' H1 : Hp} {B : AcA} {A : AC} {k : Nat}
theorem AcAt.mks (h : AcAt H B A k) : Mks B.own H := fun b hb => by
  obtain ⟨kvs, h1, _⟩ := h.hh
  obtain ⟨us, g1, _⟩ := h.hp
  simp only [AcA.own, List.mem_cons, List.not_mem_nil, or_false] at hb
  rcases hb with rfl | rfl | rfl
  · exact .inr ⟨_, h1⟩
  · exact .inl ⟨_, g1⟩
  · exact .inr ⟨_, h.hw⟩
theorem AcAt.ne_pa (h : AcAt H B A k) : B.a ≠ B.pa ∧ B.hd ≠ B.pa ∧ B.wk ≠ B.pa := by
  obtain ⟨kvs, h1, _⟩ := h.hh
  obtain ⟨us, g1, _⟩ := h.hp
  exact ⟨ne_of h.ha g1 (fun z => by cases z), ne_of h1 g1 (fun z => by cases z), ne_of h.hw g1 (fun z => by cases z)⟩
theorem AcAt.mono {j : Nat} (h : AcAt H B A k) (hj : k ≤ j) : AcAt H B A j := by
  obtain ⟨kvs, h1, h2, h3⟩ := h.hh
  exact ⟨h.ha, ⟨kvs, h1, Nat.le_trans h2 hj, h3⟩, h.hp, h.hw, h.wn, h.d1, h.d2, h.d3⟩
theorem put_len {kvs : List (Key × V)} {k : Key} {v : V} : (putK kvs k v).length ≤ kvs.length + 1 := by
  cases e : valV kvs k with
  | none =>
    rw [putK_new _ e, List.length_append]
    exact Nat.le_refl _
  | some u =>
    have := congrArg List.length (putK_keys (v := v) e)
    rw [List.length_map, List.length_map] at this
    omega
/-- heads[x] = o -/
theorem AcAt.putHd (h : AcAt H B A k) (x : Str) (o : Option Nat) (hk : k < 1000) : ∃ kvs, H B.hd = some (.dK kvs) ∧ kvs.length < sizeLine ∧ AcAt (upd H B.hd (.dK (putK kvs (.inr x) (opV o)))) B { A with heads := setO A.heads x o } (k + 1) := by
  obtain ⟨kvs, h1, h2, h3⟩ := h.hh
  obtain ⟨us, g1, g2⟩ := h.hp
  obtain ⟨n1, n2, n3⟩ := h.ne_pa
  refine ⟨kvs, h1, Nat.lt_of_le_of_lt (Nat.le_trans h2 (Nat.le_of_lt hk)) (by decide), (upd_ne h.d2).trans h.ha, ⟨_, upd_same, Nat.le_trans put_len (Nat.succ_le_succ h2), fun y => ?_⟩, ⟨us, (upd_ne (Ne.symm n2)).trans g1, g2.imp fun _ _ r => ?_⟩, (upd_ne (Ne.symm h.d1)).trans h.hw, h.wn, h.d1, h.d2, h.d3⟩
  · rw [valV_put]
    by_cases e : y = x
    · subst e
      rw [if_pos rfl]
      show opV o = opV (setO A.heads y o y)
      rw [setO_same]
    · rw [if_neg (fun z => e (by injection z)), h3 y]
      show opV (A.heads y) = opV (setO A.heads x o y)
      rw [setO_ne e]
  · obtain ⟨p, e, n, q⟩ := r
    exact ⟨p, e, n, (upd_ne (ne_of q h1 (fun z => by cases z))).trans q⟩
/-- parts.append(..) -/
theorem AcAt.putPa (h : AcAt H B A k) {D : Addr} {ps : List (Option Nat)} (hD : H D = some (.lst (ps.map opV))) (nD : D ≠ B.pa) : ∃ us, H B.pa = some (.lst us) ∧ us.length = A.parts.length ∧ AcAt (upd H B.pa (.lst (us ++ [.ref D]))) B { A with parts := A.parts ++ [ps] } k := by
  obtain ⟨kvs, h1, h2, h3⟩ := h.hh
  obtain ⟨us, g1, g2⟩ := h.hp
  obtain ⟨n1, n2, n3⟩ := h.ne_pa
  have kp : ∀ {u : V} {qs : List (Option Nat)}, PtAt H B.pa u qs → PtAt (upd H B.pa (.lst (us ++ [.ref D]))) B.pa u qs := fun r => by
    obtain ⟨p, e, n, q⟩ := r
    exact ⟨p, e, n, (upd_ne n).trans q⟩
  exact ⟨us, g1, g2.len, (upd_ne n1).trans h.ha, ⟨kvs, (upd_ne n2).trans h1, h2, h3⟩, ⟨_, upd_same, All2.app (g2.imp fun _ _ r => kp r) (.cons (kp ⟨D, rfl, nD, hD⟩) .nil)⟩, (upd_ne n3).trans h.hw, h.wn, h.d1, h.d2, h.d3⟩
theorem wkKV_snoc (ws : List Nat) (n : Nat) : wkKV (ws ++ [n]) = wkKV ws ++ [(.inl (n : Int), .bl true)] := by
  unfold wkKV
  rw [List.map_append]
  rfl
/-- worked's dict is another -/
theorem AcAt.putWk (h : AcAt H B A k) (kp : Kp B.wk H H') {ws : List Nat} (hw : H' B.wk = some (.dK (wkKV ws))) (nd : ws.Nodup) : AcAt H' B { A with worked := ws } k := by
  obtain ⟨kvs, h1, h2, h3⟩ := h.hh
  obtain ⟨us, g1, g2⟩ := h.hp
  obtain ⟨n1, n2, n3⟩ := h.ne_pa
  exact ⟨kp _ _ h.d3 h.ha, ⟨kvs, kp _ _ h.d1 h1, h2, h3⟩, ⟨us, kp _ _ (Ne.symm n3) g1, g2.imp fun _ _ r => by
    obtain ⟨p, e, n, q⟩ := r
    exact ⟨p, e, n, kp _ _ (ne_of q h.hw (fun z => by cases z)) q⟩⟩, hw, nd, h.d1, h.d2, h.d3⟩
end
end PM
namespace K24
open PySem PySem.Spec PyProof.Rows L2 ZX PM ZR
abbrev sLDo : Stmt := top 76
section
variable {P : Program} {w : World} {K : PySem.W.Frag} {mg : Str → Option Value} {base : Heap}
def spLDo (K : PySem.W.Frag) : Sp := fun vs H Q _ => ∃ (B : AcA) (A : AC) (k : Nat) (v : V) (r : Rw), vs = [.ref B.a, v] ∧ AcAt H B A k ∧ WfA A ∧ A.parts.length ≤ 900 ∧ k < 900 ∧ RV K H v r ∧ (∀ x o ps, r = .note x o ps → ps.length ≤ 3) ∧ ∀ A' H', Fz B.own H H' → AcAt H' B A' (k + 1) → AcDo A r A' → Q .non H'
abbrev NLDo : List Str := ["_law_account", "_law_row", "_law_heads", "_law_parts", "_law_worked", "_law_number", "_law_name"]
theorem scLDo : FnScope NLDo ["_law_account", "_law_row"] (defScope sLDo) := ⟨rfl, rfl, rfl, by decide +kernel, rfl, by decide +kernel, by decide +kernel⟩
theorem ok_ldo {f : Addr} {fd : FuncData} (F : FnP K "_law_do" sLDo f fd) (T : Bi mg) (C_beneath : Cal P w K mg base "_law_beneath" 1 ["_law_account", "_law_name"] (spLBeneath K)) : FnOk P w K mg base CX0 2 f fd ["_law_account", "_law_row"] (spLDo K) := by
  refine F.ok scLDo (fun vs H Q E h => ?_) (fun cdv A0 outer s H vs Q E hr h => ?_)
  · obtain ⟨B, A, k, v, r, rfl, _⟩ := h
    rfl
  · obtain ⟨B, A, kk, v, r, rfl, hA, wf, h900, hkk, tr, h3r, k⟩ := h
    have hu := hu_of hr
    refine ⟨_, PSs.nox (pss_cons (ps_asg (pe_tup (pa_cons (pe_dget hu (pv 0) pe_str (fun _ _ => rfl)) (pa_cons (pe_dget hu (pv 0) pe_str (fun _ _ => rfl)) (pa_cons (pe_dget hu (pv 0) pe_str (fun _ _ => rfl)) pa_nil)))) (pg_tup rfl (pgs_cons (pg_name (i := 2) scLDo.nd rfl (Or.inr rfl)) (pgs_cons (pg_name (i := 3) scLDo.nd rfl (Or.inl rfl)) (pgs_cons (pg_name (i := 4) scLDo.nd rfl (Or.inl rfl)) pgs_nil)))))
    (pss_one (ps_if (pt_cmpR op_eq (pe_ix ix_tup (pv 1) pe_int (fun _ _ => rfl)) pe_str (nomark _)) (pss_cons (ps_expr (pe_bm PySem.F.plainAttrs_list PySem.F.slot_list_append PySem.F.type_list_append mt_append (pv 3) (pa_cons (pe_lcS (own := [("_law_name", 6)]) (g := gName 6) (tt := tYes) (te := tDGet2 (tVar 2) (tVar 6) (tC .non)) (by rfl) scLDo.nd (pi_tup (pe_ix ix_tup (pv 1) pe_int (fun _ _ => rfl))) (blkOk_by (N := NLDo) (sc := defScope sLDo) (by decide +kernel)) (fun _ _ _ _ _ => (pg_name (i := 6) scLDo.nd rfl (Or.inl rfl))) (fun _ _ _ _ _ => pts_nil) (fun _ _ _ _ _ => (pe_dget2 hu (pv 2) (pv 6) pe_non ⟨rfl, rfl, rfl, rfl⟩))) pa_nil)))
      (pss_one (ps_dput hu (pv 2) (pe_ix ix_tup (pv 1) pe_int (fun _ _ => rfl)) (pe_op op_sub (pe_callB call_len_seq (by rfl) T.b_len (by decide +kernel) (pa_cons (pv 3) pa_nil)) pe_int) rfl)))
    (pss_one (ps_if (pt_cmpR op_eq (pe_ix ix_tup (pv 1) pe_int (fun _ _ => rfl)) pe_str (nomark _)) (pss_one (ps_dput hu (pv 2) (pe_ix ix_tup (pv 1) pe_int (fun _ _ => rfl)) (pe_dget2 hu (pv 2) (pe_ix ix_tup (pv 1) pe_int (fun _ _ => rfl)) pe_non ⟨rfl, rfl, rfl, rfl⟩) rfl))
    (pss_one (ps_if (pt_cmpR op_eq (pe_ix ix_tup (pv 1) pe_int (fun _ _ => rfl)) pe_str (nomark _)) (pss_one (ps_dput hu (pv 2) (pe_ix ix_tup (pv 1) pe_int (fun _ _ => rfl)) pe_non rfl))
    (pss_one (ps_if (pt_cmpR op_in_seq (pe_ix ix_tup (pv 1) pe_int (fun _ _ => rfl)) (pe_tup (pa_cons pe_str (pa_cons pe_str pa_nil))) (by with_unfolding_all rfl)) (pss_one (ps_for PassesOwn.never rfl (pi_list (pcal C_beneath hr rfl (pa_cons (pv 0) (pa_cons (pe_ix ix_tup (pv 1) pe_int (fun _ _ => rfl)) pa_nil)))) (pg_name (i := 5) scLDo.nd rfl (Or.inl rfl)) (pss_one (ps_dput hu (pv 4) (pv 5) pe_bl rfl)))) pss_nil))))))))), ?_⟩
    obtain ⟨ra, tl, rfl, hrS0, hrt0⟩ := tr.rowI
    refine ⟨_, rfl, B.a, _, rfl, hA.g1, _, rfl, B.a, _, rfl, hA.g2, _, rfl, B.a, _, rfl, hA.g3, by show 3 ≤ sizeLine; decide, fun t nt => ?_⟩
    have st := same_new (o := .tup [.ref B.hd, .ref B.pa, .ref B.wk]) nt
    have hA1 := hA.same st
    have hrS := st.pt.sq hrS0
    have hrt := hrt0.pt st.pt
    have zt := st.fz hA.mks
    refine ⟨t, _, rfl, .inl (.inl upd_same), rfl, _, _, rfl, _, _, rfl, _, _, rfl, rfl, ?_⟩
    refine ⟨_, rfl, _, _, _, _, rfl, rfl, hrS, at0, rfl, _, rfl, ?_⟩
    cases r with
    | note x o ps =>
      obtain ⟨v1, v2, v3, rfl, t1, t2, t3⟩ := hrt.three
      cases t1.strI
      obtain ⟨a3, xs3, rfl, hS3, ht3⟩ := t3.tupI
      have e3 := Tvs.strs ht3
      subst e3
      have hpl := h3r x o ps rfl
      obtain ⟨us0, g1, g2⟩ := hA1.hp
      refine ifD rfl ⟨_, rfl, .inl ⟨rfl, _, SqL.of g1⟩, ?_⟩
      refine lc_into ?_
      refine ⟨_, rfl, _, _, _, _, rfl, rfl, hrS, rfl, a3, rfl, ⟨_, hS3⟩, ?_⟩
      refine lc_overA (p := none) (as := ps) (zs := ps.map V.str) (Rel := fun _ c y => y = opV (A.heads c)) it_tup (by rw [List.length_map]) (fun _ _ _ _ _ h => h) (fun _ h => nomatch h) (by rw [List.length_map]; exact Nat.lt_of_le_of_lt hpl (by decide)) (fun H' _ pt => pt.sq hS3) ?_ ?_
      · intro i z y hz hy H' kq pt R kR
        rw [List.getElem?_map, hy] at hz
        cases hz
        obtain ⟨kvs, h1, h2, h3⟩ := (hA1.same kq.same).hh
        exact ⟨rfl, _, rfl, B.hd, rfl, .inl ⟨_, .inl h1⟩, _, rfl, _, DGet.k (k := .inr y) h1, kR _ _ (Same.kq fun _ _ h => h) (Pt.refl _) (h3 y)⟩
      intro D ys H2 kq pt nD hD all
      have hA2 := hA1.same kq.same
      have eys := All2.map all
      subst eys
      have nDpa : D ≠ B.pa := fun e => by
        rw [e, g1] at nD
        cases nD
      obtain ⟨us, e1, e2, hA3⟩ := hA2.putPa (ps := ps.map A.heads) (D := D) (by rw [hD, List.map_map]; rfl) nDpa
      have z2 := zt.trans (kq.same.fz zt.mks)
      refine ⟨B.pa, us, _, rfl, rfl, e1, by rw [e2]; exact Nat.lt_of_le_of_lt h900 (by decide), ?_⟩
      have z3 : Fz B.own H _ := z2.trans (Fz.put z2.mks (show B.pa ∈ B.own by simp [AcA.own]) (.inl ⟨us ++ [.ref D], rfl⟩))
      obtain ⟨kvs, f1, f2, hA4⟩ := hA3.putHd x (some A.parts.length) (by omega)
      refine ⟨_, rfl, B.pa, _, rfl, .inl (SqL.of upd_same), _, _, rfl, rfl, _, rfl, _, rfl, _, _, _, _, rfl, rfl, (z3.pt hA.mks).sq hrS0, rfl, B.hd, _, rfl, DPut.k (k := .inr x) f1 f2, ?_⟩
      have ev : V.int ((((us ++ [V.ref D]).length : Nat) : Int) - 1) = opV (some A.parts.length) := by
        rw [List.length_append, e2]
        show V.int (((A.parts.length + 1 : Nat) : Int) - 1) = V.int _
        congr 1
        omega
      show Q .non (upd _ B.hd (.dK (putK kvs (.inr x) (V.int ((((us ++ [V.ref D]).length : Nat) : Int) - 1)))))
      rw [ev]
      exact k _ _ (z3.trans (Fz.put z3.mks (show B.hd ∈ B.own by simp [AcA.own]) (.inr ⟨_, rfl⟩))) hA4 (.note hpl)
    | copy x y =>
      obtain ⟨v1, v2, rfl, t1, t2⟩ := hrt.two
      cases t1.strI
      cases t2.strI
      refine ifDF (neS (a := "copy") (b := "note") (by decide +kernel)) ⟨_, rfl, _, _, _, _, rfl, rfl, hrS, at0, rfl, _, rfl, ifD rfl ?_⟩
      obtain ⟨kvs0, h1, h2, h3⟩ := hA1.hh
      obtain ⟨kvs, f1, f2, hA4⟩ := hA1.putHd x (A.heads y) (by omega)
      refine ⟨_, rfl, B.hd, rfl, .inl ⟨_, .inl h1⟩, _, rfl, _, _, _, _, rfl, rfl, hrS, rfl, _, DGet.k (k := .inr y) h1, ?_⟩
      refine ⟨_, rfl, _, rfl, _, _, _, _, rfl, rfl, hrS, rfl, B.hd, _, rfl, DPut.k (k := .inr x) f1 f2, ?_⟩
      show Q .non (upd _ B.hd (.dK (putK kvs (.inr x) ((valV kvs0 (.inr y)).getD .non))))
      rw [h3 y]
      exact k _ _ (zt.trans (Fz.put zt.mks (show B.hd ∈ B.own by simp [AcA.own]) (.inr ⟨_, rfl⟩))) hA4 .copy
    | give x i =>
      obtain ⟨v1, v2, rfl, t1, t2⟩ := hrt.two
      cases t1.strI
      refine ifDF (neS (a := "give") (b := "note") (by decide +kernel)) ⟨_, rfl, _, _, _, _, rfl, rfl, hrS, at0, rfl, _, rfl, ifDF (neS (a := "give") (b := "copy") (by decide +kernel)) ⟨_, rfl, _, _, _, _, rfl, rfl, hrS, at0, rfl, _, rfl, ifD rfl ?_⟩⟩
      obtain ⟨kvs, f1, f2, hA4⟩ := hA1.putHd x none (by omega)
      refine ⟨_, rfl, _, rfl, _, _, _, _, rfl, rfl, hrS, rfl, B.hd, _, rfl, DPut.k (k := .inr x) f1 f2, ?_⟩
      exact k _ _ (zt.trans (Fz.put zt.mks (show B.hd ∈ B.own by simp [AcA.own]) (.inr ⟨_, rfl⟩))) hA4 .give
    | ask x =>
      obtain ⟨v1, rfl, t1⟩ := hrt.one
      cases t1.strI
      refine ifDF (neS (a := "ask") (b := "note") (by decide +kernel)) ⟨_, rfl, _, _, _, _, rfl, rfl, hrS, at0, rfl, _, rfl, ifDF (neS (a := "ask") (b := "copy") (by decide +kernel)) ⟨_, rfl, _, _, _, _, rfl, rfl, hrS, at0, rfl, _, rfl, ifDF (neS (a := "ask") (b := "give") (by decide +kernel)) ?_⟩⟩
      refine ⟨_, rfl, _, _, _, _, rfl, rfl, hrS, at0, by decide, fun t2 nt2 => ?_⟩
      have st2 := same_new (o := .tup [V.str "ask", V.str "print"]) nt2
      refine ⟨_, _, rfl, .inr (.inl (.inl upd_same)), rfl, rfl, _, rfl, ?_⟩
      have s2 := st.trans st2
      have hA2 := hA.same s2
      have z2 := s2.fz hA.mks
      refine ifB (show inV (V.str (Str.ofString "ask")) [V.str (Str.ofString "ask"), V.str (Str.ofString "print")] = true by decide +kernel) ?_
      refine ⟨_, rfl, _, rfl, _, _, _, _, rfl, rfl, s2.pt.sq hrS0, rfl, B, A, kk, x, rfl, hA2, wf, by omega, fun q fs H3 s3 nq hq hnd hfs => ⟨q, rfl, ⟨_, SqL.of hq⟩, ?_⟩⟩
      have hA3 := hA2.same s3
      have nqw : q ≠ B.wk := fun e => by
        rw [e, hA3.hw] at hq
        cases hq
      have z3 := z2.trans (s3.fz z2.mks)
      have hfw : ∀ n ∈ fs, n ∉ A.worked := fun n hn => by
        obtain ⟨m, _, hr⟩ := (hfs n).mp hn
        exact hr.un2
      have hfp : ∀ n ∈ fs, n < A.parts.length := fun n hn => by
        obtain ⟨m, hm, hr⟩ := (hfs n).mp hn
        exact Nat.lt_of_le_of_lt (hr.lt wf) (wf.hlow _ _ hm)
      have hfl : fs.length ≤ A.parts.length := nodup_lt hnd hfp
      have hwl : A.worked.length ≤ A.parts.length := nodup_lt hA.wn wf.wlow
      refine for_list (xs := natV fs) (fun i σ' H' => ∃ y5, σ' = [some (.ref B.a), some (.ref ra), some (.ref B.hd), some (.ref B.pa), some (.ref B.wk), y5, none] ∧ Kp B.wk H3 H' ∧ H' q = some (.lst (natV fs)) ∧ H' B.wk = some (.dK (wkKV (A.worked ++ fs.take i)))) ⟨_, rfl, fun _ _ _ h => h, hq, by rw [List.take_zero, List.append_nil]; exact hA3.hw⟩ ?_ ?_ ?_
      · rintro i σ' H' _ ⟨y5, rfl, kp, hq', hw'⟩
        exact SqL.of hq'
      · rintro i z σ' H' hz ⟨y5, rfl, kp, hq', hw'⟩
        obtain ⟨n, hn, rfl⟩ : ∃ n, fs[i]? = some n ∧ z = V.int (n : Nat) := by
          unfold natV at hz
          rw [List.getElem?_map] at hz
          cases e : fs[i]? with
          | none => rw [e] at hz; cases hz
          | some p => rw [e] at hz; exact ⟨p, rfl, (Option.some.inj hz).symm⟩
        have htk : fs.take (i + 1) = fs.take i ++ [n] := by
          rw [List.take_succ, hn]
          rfl
        have hnew : n ∉ A.worked ++ fs.take i := fun hm => by
          rcases List.mem_append.mp hm with hm | hm
          · exact hfw n (List.mem_of_getElem? hn) hm
          · have hsub := hnd.sublist (List.take_sublist (i + 1) fs)
            rw [htk] at hsub
            exact (List.nodup_append.mp hsub).2.2 n hm n List.mem_cons_self rfl
        have hnv : valV (wkKV (A.worked ++ fs.take i)) (.inl (n : Int)) = none := by
          have := wk_in (ws := A.worked ++ fs.take i) (n := n)
          rw [decide_eq_false hnew] at this
          cases e : valV (wkKV (A.worked ++ fs.take i)) (.inl (n : Int)) with
          | none => rfl
          | some v => rw [e] at this; cases this
        refine ⟨_, rfl, _, rfl, B.wk, _, rfl, DPut.k (k := .inl (n : Int)) hw' ?_, ?_⟩
        · unfold wkKV
          rw [List.length_map, List.length_append, List.length_take]
          exact Nat.lt_of_le_of_lt (show _ ≤ 2000 by omega) (by decide)
        · rw [putK_new _ hnv, ← wkKV_snoc, List.append_assoc, ← htk]
          exact ⟨_, rfl, kp.put, (upd_ne nqw).trans hq', upd_same⟩
      · rintro σ' H' ⟨y5, rfl, kp, hq', hw'⟩
        have e : (natV fs).length = fs.length := List.length_map ..
        rw [e, List.take_length] at hw'
        refine k _ H' ⟨fun b' u nb hb => kp _ _ (fun e => nb (by rw [e]; simp [AcA.own])) (z3.keep _ _ nb hb), fun b' hb' => ?_⟩ ((hA3.putWk kp hw' ?_).mono (Nat.le_succ _)) (.ask hfs)
        · by_cases e : b' = B.wk
          · rw [e]
            exact .inr ⟨_, hw'⟩
          · rcases z3.mks b' hb' with ⟨_, h⟩ | ⟨_, h⟩
            · exact .inl ⟨_, kp _ _ e h⟩
            · exact .inr ⟨_, kp _ _ e h⟩
        · exact List.nodup_append.mpr ⟨hA.wn, hnd, fun a ha b hb e => hfw b hb (by rw [← e]; exact ha)⟩
    | prt x =>
      obtain ⟨v1, rfl, t1⟩ := hrt.one
      cases t1.strI
      refine ifDF (neS (a := "print") (b := "note") (by decide +kernel)) ⟨_, rfl, _, _, _, _, rfl, rfl, hrS, at0, rfl, _, rfl, ifDF (neS (a := "print") (b := "copy") (by decide +kernel)) ⟨_, rfl, _, _, _, _, rfl, rfl, hrS, at0, rfl, _, rfl, ifDF (neS (a := "print") (b := "give") (by decide +kernel)) ?_⟩⟩
      refine ⟨_, rfl, _, _, _, _, rfl, rfl, hrS, at0, by decide, fun t2 nt2 => ?_⟩
      have st2 := same_new (o := .tup [V.str "ask", V.str "print"]) nt2
      refine ⟨_, _, rfl, .inr (.inl (.inl upd_same)), rfl, rfl, _, rfl, ?_⟩
      have s2 := st.trans st2
      have hA2 := hA.same s2
      have z2 := s2.fz hA.mks
      refine ifB (show inV (V.str (Str.ofString "print")) [V.str (Str.ofString "ask"), V.str (Str.ofString "print")] = true by decide +kernel) ?_
      refine ⟨_, rfl, _, rfl, _, _, _, _, rfl, rfl, s2.pt.sq hrS0, rfl, B, A, kk, x, rfl, hA2, wf, by omega, fun q fs H3 s3 nq hq hnd hfs => ⟨q, rfl, ⟨_, SqL.of hq⟩, ?_⟩⟩
      have hA3 := hA2.same s3
      have nqw : q ≠ B.wk := fun e => by
        rw [e, hA3.hw] at hq
        cases hq
      have z3 := z2.trans (s3.fz z2.mks)
      have hfw : ∀ n ∈ fs, n ∉ A.worked := fun n hn => by
        obtain ⟨m, _, hr⟩ := (hfs n).mp hn
        exact hr.un2
      have hfp : ∀ n ∈ fs, n < A.parts.length := fun n hn => by
        obtain ⟨m, hm, hr⟩ := (hfs n).mp hn
        exact Nat.lt_of_le_of_lt (hr.lt wf) (wf.hlow _ _ hm)
      have hfl : fs.length ≤ A.parts.length := nodup_lt hnd hfp
      have hwl : A.worked.length ≤ A.parts.length := nodup_lt hA.wn wf.wlow
      refine for_list (xs := natV fs) (fun i σ' H' => ∃ y5, σ' = [some (.ref B.a), some (.ref ra), some (.ref B.hd), some (.ref B.pa), some (.ref B.wk), y5, none] ∧ Kp B.wk H3 H' ∧ H' q = some (.lst (natV fs)) ∧ H' B.wk = some (.dK (wkKV (A.worked ++ fs.take i)))) ⟨_, rfl, fun _ _ _ h => h, hq, by rw [List.take_zero, List.append_nil]; exact hA3.hw⟩ ?_ ?_ ?_
      · rintro i σ' H' _ ⟨y5, rfl, kp, hq', hw'⟩
        exact SqL.of hq'
      · rintro i z σ' H' hz ⟨y5, rfl, kp, hq', hw'⟩
        obtain ⟨n, hn, rfl⟩ : ∃ n, fs[i]? = some n ∧ z = V.int (n : Nat) := by
          unfold natV at hz
          rw [List.getElem?_map] at hz
          cases e : fs[i]? with
          | none => rw [e] at hz; cases hz
          | some p => rw [e] at hz; exact ⟨p, rfl, (Option.some.inj hz).symm⟩
        have htk : fs.take (i + 1) = fs.take i ++ [n] := by
          rw [List.take_succ, hn]
          rfl
        have hnew : n ∉ A.worked ++ fs.take i := fun hm => by
          rcases List.mem_append.mp hm with hm | hm
          · exact hfw n (List.mem_of_getElem? hn) hm
          · have hsub := hnd.sublist (List.take_sublist (i + 1) fs)
            rw [htk] at hsub
            exact (List.nodup_append.mp hsub).2.2 n hm n List.mem_cons_self rfl
        have hnv : valV (wkKV (A.worked ++ fs.take i)) (.inl (n : Int)) = none := by
          have := wk_in (ws := A.worked ++ fs.take i) (n := n)
          rw [decide_eq_false hnew] at this
          cases e : valV (wkKV (A.worked ++ fs.take i)) (.inl (n : Int)) with
          | none => rfl
          | some v => rw [e] at this; cases this
        refine ⟨_, rfl, _, rfl, B.wk, _, rfl, DPut.k (k := .inl (n : Int)) hw' ?_, ?_⟩
        · unfold wkKV
          rw [List.length_map, List.length_append, List.length_take]
          exact Nat.lt_of_le_of_lt (show _ ≤ 2000 by omega) (by decide)
        · rw [putK_new _ hnv, ← wkKV_snoc, List.append_assoc, ← htk]
          exact ⟨_, rfl, kp.put, (upd_ne nqw).trans hq', upd_same⟩
      · rintro σ' H' ⟨y5, rfl, kp, hq', hw'⟩
        have e : (natV fs).length = fs.length := List.length_map ..
        rw [e, List.take_length] at hw'
        refine k _ H' ⟨fun b' u nb hb => kp _ _ (fun e => nb (by rw [e]; simp [AcA.own])) (z3.keep _ _ nb hb), fun b' hb' => ?_⟩ ((hA3.putWk kp hw' ?_).mono (Nat.le_succ _)) (.prt hfs)
        · by_cases e : b' = B.wk
          · rw [e]
            exact .inr ⟨_, hw'⟩
          · rcases z3.mks b' hb' with ⟨_, h⟩ | ⟨_, h⟩
            · exact .inl ⟨_, kp _ _ e h⟩
            · exact .inr ⟨_, kp _ _ e h⟩
        · exact List.nodup_append.mpr ⟨hA.wn, hnd, fun a ha b hb e => hfw b hb (by rw [← e]; exact ha)⟩
    | either b1 b2 =>
      refine ifDF (neS (a := "either") (b := "note") (by decide +kernel)) ⟨_, rfl, _, _, _, _, rfl, rfl, hrS, at0, rfl, _, rfl, ifDF (neS (a := "either") (b := "copy") (by decide +kernel)) ⟨_, rfl, _, _, _, _, rfl, rfl, hrS, at0, rfl, _, rfl, ifDF (neS (a := "either") (b := "give") (by decide +kernel)) ?_⟩⟩
      refine ⟨_, rfl, _, _, _, _, rfl, rfl, hrS, at0, by decide, fun t2 nt2 => ?_⟩
      have st2 := same_new (o := .tup [V.str "ask", V.str "print"]) nt2
      refine ⟨_, _, rfl, .inr (.inl (.inl upd_same)), rfl, rfl, _, rfl, ?_⟩
      exact ifBF (show inV (V.str (Str.ofString "either")) [V.str (Str.ofString "ask"), V.str (Str.ofString "print")] = false by decide +kernel) (k A _ ((st.trans st2).fz hA.mks) ((hA.same (st.trans st2)).mono (Nat.le_succ _)) .either)
    | again b1 =>
      refine ifDF (neS (a := "again") (b := "note") (by decide +kernel)) ⟨_, rfl, _, _, _, _, rfl, rfl, hrS, at0, rfl, _, rfl, ifDF (neS (a := "again") (b := "copy") (by decide +kernel)) ⟨_, rfl, _, _, _, _, rfl, rfl, hrS, at0, rfl, _, rfl, ifDF (neS (a := "again") (b := "give") (by decide +kernel)) ?_⟩⟩
      refine ⟨_, rfl, _, _, _, _, rfl, rfl, hrS, at0, by decide, fun t2 nt2 => ?_⟩
      have st2 := same_new (o := .tup [V.str "ask", V.str "print"]) nt2
      refine ⟨_, _, rfl, .inr (.inl (.inl upd_same)), rfl, rfl, _, rfl, ?_⟩
      exact ifBF (show inV (V.str (Str.ofString "again")) [V.str (Str.ofString "ask"), V.str (Str.ofString "print")] = false by decide +kernel) (k A _ ((st.trans st2).fz hA.mks) ((hA.same (st.trans st2)).mono (Nat.le_succ _)) .again)
end
end K24
set_option Elab.async false
set_option linter.all false
set_option maxRecDepth 100000
set_option maxHeartbeats 4000000
/-! The law's _law_held. -/
namespace PM
open PySem PySem.Spec PyProof.Rows L2 ZX ZR
noncomputable def bnB (A : AC) (n : Nat) (x : Str) : Bool := @decide (Bn A x n) (Classical.propDecidable _)
theorem bnB_iff {A : AC} {n : Nat} {x : Str} : bnB A n x = true ↔ Bn A x n := by
  unfold bnB
  exact @decide_eq_true_iff _ (Classical.propDecidable _)
theorem hld_bnB {A : AC} {ys : List Str} {n : Nat} : Hld A ys n (bnB A n) := fun _ _ => bnB_iff
/-- a dict of numbers, each with the names that are told -/
structure HS (K : PySem.W.Frag) (H : Hp) (d : Addr) (kvs : List (Key × V)) (ks : List Nat) (L : Nat → List Str) : Prop where
  hd : H d = some (.dK kvs)
  hk : kvs.map (·.1) = ks.map fun (n : Nat) => (Sum.inl (n : Int) : Key)
  nd : ks.Nodup
  mem : ∀ n, n ∈ ks ↔ L n ≠ []
  val : ∀ n, L n ≠ [] → ∃ a, valV kvs (.inl (n : Int)) = some (.ref a) ∧ SqT K H a ((L n).map V.str)
section
variable {K : PySem.W.Frag} {H H' : Hp} {d : Addr} {kvs : List (Key × V)} {ks : List Nat} {L : Nat → List Str}
theorem HS.same (h : HS K H d kvs ks L) (s : Same H H') : HS K H' d kvs ks L := ⟨s _ _ h.hd, h.hk, h.nd, h.mem, fun n hn => by
  obtain ⟨a, h1, h2⟩ := h.val n hn
  exact ⟨a, h1, s.pt.sq h2⟩⟩
theorem HS.none (h : HS K H d kvs ks L) {n : Nat} (e : L n = []) : valV kvs (.inl (n : Int)) = none := by
  cases ev : valV kvs (.inl (n : Int)) with
  | none => rfl
  | some v =>
    have := valV_in ev
    rw [h.hk] at this
    obtain ⟨m, hm, e2⟩ := List.mem_map.mp this
    have e3 : m = n := by injection e2 with e3; omega
    rw [e3] at hm
    exact absurd e ((h.mem n).mp hm)
theorem HS.len (h : HS K H d kvs ks L) (hlt : ∀ m, L m ≠ [] → m < 900) : kvs.length ≤ 900 := by
  have e := congrArg List.length h.hk
  rw [List.length_map, List.length_map] at e
  rw [e]
  exact nodup_lt h.nd fun m hm => hlt m ((h.mem m).mp hm)
def addL (L : Nat → List Str) (n : Nat) (x : Str) : Nat → List Str := fun m => if m = n then L m ++ [x] else L m
theorem HS.put (h : HS K H d kvs ks L) {n : Nat} {x : Str} {a : Addr} (ha : SqT K H a ((L n ++ [x]).map V.str)) : ∃ ks', HS K (upd H d (.dK (putK kvs (.inl (n : Int)) (.ref a)))) d (putK kvs (.inl (n : Int)) (.ref a)) ks' (addL L n x) := by
  have pt : Pt H (upd H d (.dK (putK kvs (.inl (n : Int)) (.ref a)))) := Kp.ptD h.hd (fun b o e hb => (upd_ne e).trans hb)
  have hv : ∀ m, addL L n x m ≠ [] → ∃ c, valV (putK kvs (.inl (n : Int)) (.ref a)) (.inl (m : Int)) = some (.ref c) ∧ SqT K (upd H d (.dK (putK kvs (.inl (n : Int)) (.ref a)))) c ((addL L n x m).map V.str) := fun m hm => by
    rw [valV_put]
    unfold addL at hm ⊢
    by_cases e : m = n
    · subst e
      rw [if_pos rfl, if_pos rfl]
      exact ⟨a, rfl, pt.sq ha⟩
    · rw [if_neg e] at hm
      rw [if_neg e, if_neg (fun z => e (by injection z with z; omega))]
      obtain ⟨c, h1, h2⟩ := h.val m hm
      exact ⟨c, h1, pt.sq h2⟩
  cases e : L n with
  | nil =>
    have hn := h.none e
    refine ⟨ks ++ [n], upd_same, ?_, ?_, fun m => ?_, hv⟩
    · rw [putK_new _ hn, List.map_append, h.hk, List.map_append]
      rfl
    · exact List.nodup_append.mpr ⟨h.nd, by simp, fun b hb c hc ec => by
        rw [List.mem_singleton.mp hc] at ec
        rw [ec] at hb
        exact (h.mem n).mp hb e⟩
    · rw [List.mem_append, h.mem m]
      unfold addL
      by_cases em : m = n
      · rw [if_pos em, em, e]
        simp
      · rw [if_neg em]
        simp [em]
  | cons z zs =>
    have hne : L n ≠ [] := by rw [e]; exact fun q => nomatch q
    obtain ⟨c, h1, _⟩ := h.val n hne
    refine ⟨ks, upd_same, (putK_keys h1).trans h.hk, h.nd, fun m => ?_, hv⟩
    rw [h.mem m]
    unfold addL
    by_cases em : m = n
    · rw [if_pos em, em]
      simp [e]
    · rw [if_neg em]
end
end PM
namespace K24
open PySem PySem.Spec PyProof.Rows L2 ZX PM ZR
abbrev sLHeld : Stmt := top 78
section
variable {P : Program} {w : World} {K : PySem.W.Frag} {mg : Str → Option Value} {base : Heap}
def spLHeld (K : PySem.W.Frag) : Sp := fun vs H Q _ => ∃ (B : AcA) (A : AC) (k : Nat) (t : Addr) (ys : List Str), vs = [.ref B.a, .ref t] ∧ AcAt H B A k ∧ WfA A ∧ A.parts.length ≤ 900 ∧ H t = some (.lst (ys.map V.str)) ∧ ys.length ≤ 60 ∧ ∀ d kvs ks H', Same H H' → H d = none → HS K H' d kvs ks (fun n => ys.filter (bnB A n)) → Q (.ref d) H'
theorem scLHeld : FnScope ["_law_account", "_law_names_here", "_law_found", "_law_name", "_law_number"] ["_law_account", "_law_names_here"] (defScope sLHeld) := ⟨rfl, rfl, rfl, by decide +kernel, rfl, by decide +kernel, by decide +kernel⟩
theorem ok_lheld {f : Addr} {fd : FuncData} (F : FnP K "_law_held" sLHeld f fd) (C_beneath : Cal P w K mg base "_law_beneath" 1 ["_law_account", "_law_name"] (spLBeneath K)) : FnOk P w K mg base CX0 2 f fd ["_law_account", "_law_names_here"] (spLHeld K) := by
  refine F.ok scLHeld (fun vs H Q E h => ?_) (fun cdv A0 outer s H vs Q E hr h => ?_)
  · obtain ⟨B, A, k, t, ys, rfl, _⟩ := h
    rfl
  · obtain ⟨B, A, kk, t, ys, rfl, hA, wf, h900, ht, h60, k⟩ := h
    have hu := hu_of hr
    refine ⟨_, PSs.nox (pss_cons (ps_set (i := 2) scLHeld.nd rfl (Or.inl rfl) pe_dnewK)
    (pss_cons (ps_for PassesOwn.never rfl (pi_list (pv 1)) (pg_name (i := 3) scLHeld.nd rfl (Or.inl rfl)) (pss_one (ps_for PassesOwn.never rfl (pi_list (pcal C_beneath hr rfl (pa_cons (pv 0) (pa_cons (pv 3) pa_nil)))) (pg_name (i := 4) scLHeld.nd rfl (Or.inl rfl)) (pss_one (ps_dput hu (pv 2) (pv 4) (pe_op op_catZ (pe_dget2 hu (pv 2) (pv 4) (pe_tup pa_nil) ⟨rfl, rfl, rfl, rfl⟩) (pe_tup (pa_cons (pv 3) pa_nil))) rfl)))))
    (pss_one (ps_ret (pv 2))))), ?_⟩
    intro d nd
    have sd := same_new (o := .dK []) nd
    refine ⟨_, rfl, t, rfl, ⟨_, SqL.of (sd _ _ ht)⟩, ?_⟩
    refine for_list (xs := ys.map V.str) (fun i σ' H' => ∃ kvs ks y3 y4, σ' = [some (.ref B.a), some (.ref t), some (.ref d), y3, y4] ∧ Same H H' ∧ HS K H' d kvs ks (fun n => (ys.take i).filter (bnB A n))) ⟨[], [], _, _, rfl, sd, upd_same, rfl, List.nodup_nil, fun n => by simp, fun n hn => absurd (by simp) hn⟩ ?_ ?_ ?_
    · rintro i σ' H' _ ⟨_, _, _, _, _, sm, _⟩
      exact SqL.of (sm _ _ ht)
    · rintro i z σ' H' hz ⟨kvs, ks, y3, y4, rfl, sm, hS⟩
      obtain ⟨x, hx, rfl⟩ : ∃ x, ys[i]? = some x ∧ z = V.str x := by
        rw [List.getElem?_map] at hz
        cases e : ys[i]? with
        | none => rw [e] at hz; cases hz
        | some p => rw [e] at hz; exact ⟨p, rfl, (Option.some.inj hz).symm⟩
      have hil : i < ys.length := (List.getElem?_eq_some_iff.mp hx).1
      have htk : ys.take (i + 1) = ys.take i ++ [x] := by
        rw [List.take_succ, hx]
        rfl
      refine ⟨_, rfl, _, rfl, B, A, kk, x, rfl, hA.same sm, wf, by omega, fun q fs H3 s3 nq hq hnd hfs => ⟨q, rfl, ⟨_, SqL.of hq⟩, ?_⟩⟩
      have s03 := sm.trans s3
      have nqd : q ≠ d := fun e => by
        rw [e, (hS.same s3).hd] at hq
        cases hq
      have hlt : ∀ n, Bn A x n → n < 900 := fun n hb => by
        obtain ⟨m, hm, hr⟩ := hb
        have := Nat.lt_of_le_of_lt (hr.lt wf) (wf.hlow _ _ hm)
        omega
      have hltT : ∀ n (zs : List Str), zs.filter (bnB A n) ≠ [] → n < 900 := fun n zs hne => by
        obtain ⟨y, hy⟩ := List.exists_mem_of_ne_nil _ hne
        obtain ⟨m, hm, hr⟩ := bnB_iff.mp (List.mem_filter.mp hy).2
        have := Nat.lt_of_le_of_lt (hr.lt wf) (wf.hlow _ _ hm)
        omega
      refine for_list (xs := natV fs) (fun j σ' H' => ∃ kvs ks y4, σ' = [some (.ref B.a), some (.ref t), some (.ref d), some (.str x), y4] ∧ Same H H' ∧ H' q = some (.lst (natV fs)) ∧ HS K H' d kvs ks (fun n => (ys.take i).filter (bnB A n) ++ if n ∈ fs.take j then [x] else [])) ⟨kvs, ks, _, rfl, s03, hq, by simpa using hS.same s3⟩ ?_ ?_ ?_
      · rintro j σ' H' _ ⟨_, _, _, _, _, hq', _⟩
        exact SqL.of hq'
      · rintro j z σ' H' hz ⟨kvs, ks, y4, rfl, sm', hq', hS'⟩
        obtain ⟨n, hn, rfl⟩ : ∃ n, fs[j]? = some n ∧ z = V.int (n : Nat) := by
          unfold natV at hz
          rw [List.getElem?_map] at hz
          cases e : fs[j]? with
          | none => rw [e] at hz; cases hz
          | some p => rw [e] at hz; exact ⟨p, rfl, (Option.some.inj hz).symm⟩
        have hnf := List.mem_of_getElem? hn
        have htf : fs.take (j + 1) = fs.take j ++ [n] := by
          rw [List.take_succ, hn]
          rfl
        have hnew : n ∉ fs.take j := fun hm => by
          have hsub := hnd.sublist (List.take_sublist (j + 1) fs)
          rw [htf] at hsub
          exact (List.nodup_append.mp hsub).2.2 n hm n List.mem_cons_self rfl
        have hltL : ∀ m, ((ys.take i).filter (bnB A m) ++ if m ∈ fs.take j then [x] else []) ≠ [] → m < 900 := fun m hne => by
          by_cases hm : m ∈ fs.take j
          · exact hlt m ((hfs m).mp (List.mem_of_mem_take hm))
          · rw [if_neg hm, List.append_nil] at hne
            exact hltT m _ hne
        have hLn : ((fun n => (ys.take i).filter (bnB A n) ++ if n ∈ fs.take j then [x] else []) n : List Str) = (ys.take i).filter (bnB A n) := by
          show (_ ++ if n ∈ fs.take j then [x] else []) = _
          rw [if_neg hnew, List.append_nil]
        have hLl : ((ys.take i).filter (bnB A n)).length ≤ 60 := Nat.le_trans (List.length_filter_le _ _) (by rw [List.length_take]; omega)
        refine ⟨_, rfl, d, rfl, .inl ⟨_, .inl hS'.hd⟩, _, rfl, by decide, fun t0 nt0 => ?_⟩
        have s0 := same_new (o := .tup []) nt0
        have hS0 := hS'.same s0
        have hget : ∃ a, (valV kvs (.inl (n : Int))).getD (.ref t0) = .ref a ∧ SqT K (upd H' t0 (.tup [])) a (((ys.take i).filter (bnB A n)).map V.str) := by
          by_cases hne : (ys.take i).filter (bnB A n) = []
          · rw [hS0.none (n := n) (hLn.trans hne), hne]
            exact ⟨t0, rfl, .inl (.inl upd_same)⟩
          · obtain ⟨a, e1, e2⟩ := hS0.val n (fun z => hne (hLn.symm.trans z))
            rw [e1]
            exact ⟨a, rfl, (congrArg (fun l => SqT K (upd H' t0 (.tup [])) a (List.map V.str l)) hLn).mp e2⟩
        obtain ⟨a, ea, ha⟩ := hget
        refine ⟨_, DGet.k (k := .inl (n : Int)) hS0.hd, ?_⟩
        rw [ea]
        refine ⟨_, rfl, by show 1 ≤ sizeLine; decide, fun u nu => ?_⟩
        have su := same_new (o := .tup [V.str x]) nu
        refine ⟨a, u, _, _, rfl, rfl, su.pt.sq ha, .inl (.inl upd_same), by rw [List.length_map]; exact Nat.le_trans (show ((ys.take i).filter (bnB A n)).length + 1 ≤ 100 by omega) (by decide), fun w2 H4 s4 hw4 => ?_⟩
        have s04 := (s0.trans su).trans s4
        have hS4 := hS'.same s04
        obtain ⟨ks', hS5⟩ := hS4.put (n := n) (x := x) (a := w2) ((congrArg (fun l => SqT K H4 w2 (List.map V.str (l ++ [x]))) hLn).mpr (by show SqT K H4 w2 (List.map V.str ((ys.take i).filter (bnB A n) ++ [x])); rw [List.map_append]; exact hw4))
        refine ⟨_, rfl, _, rfl, d, _, rfl, DPut.k (k := .inl (n : Int)) hS4.hd (Nat.lt_of_le_of_lt (hS4.len hltL) (by decide)), ?_⟩
        have eL : addL (fun n => (ys.take i).filter (bnB A n) ++ if n ∈ fs.take j then [x] else []) n x = fun n => (ys.take i).filter (bnB A n) ++ if n ∈ fs.take (j + 1) then [x] else [] := by
          funext m
          unfold addL
          rw [htf]
          by_cases em : m = n
          · subst em
            simp [hnew]
          · simp [em]
        rw [eL] at hS5
        exact ⟨_, ks', _, rfl, same_putN (sm'.trans s04) nd, (upd_ne nqd).trans (s04 _ _ hq'), hS5⟩
      · rintro σ' H' ⟨kvs, ks, y4, rfl, sm', hq', hS'⟩
        have e : (natV fs).length = fs.length := List.length_map ..
        rw [e, List.take_length] at hS'
        have eL : (fun n => (ys.take i).filter (bnB A n) ++ if n ∈ fs then [x] else []) = fun n => (ys.take (i + 1)).filter (bnB A n) := by
          funext n
          rw [htk, List.filter_append]
          by_cases hb : Bn A x n
          · rw [if_pos ((hfs n).mpr hb), List.filter_cons, if_pos (bnB_iff.mpr hb)]
            rfl
          · rw [if_neg (fun z => hb ((hfs n).mp z)), List.filter_cons, if_neg (fun z => hb (bnB_iff.mp z))]
            rfl
        rw [eL] at hS'
        exact ⟨kvs, ks, _, _, rfl, sm', hS'⟩
    · rintro σ' H' ⟨kvs, ks, y3, y4, rfl, sm, hS⟩
      have e : (ys.map V.str).length = ys.length := List.length_map ..
      rw [e, List.take_length] at hS
      exact ⟨_, rfl, k d kvs ks H' sm nd hS⟩
end
end K24
set_option Elab.async false
set_option linter.all false
set_option maxRecDepth 100000
set_option maxHeartbeats 4000000
namespace PM
open PySem PySem.Spec PyProof.Rows L2 ZX ZR
theorem lay_ints : ∀ ns : List Nat, PyData.canLayAll0 (ns.map fun (n : Nat) => PyData.int (n : Int)) = true
  | [] => rfl
  | n :: ns => by
    show (true && PyData.canLayAll0 (ns.map fun (n : Nat) => PyData.int (n : Int))) = true
    rw [lay_ints ns]
    rfl
theorem dep_ints : ∀ ns : List Nat, PyData.depthAll (ns.map fun (n : Nat) => PyData.int (n : Int)) = 0
  | [] => rfl
  | n :: ns => by
    show max 0 (PyData.depthAll (ns.map fun (n : Nat) => PyData.int (n : Int))) = 0
    rw [dep_ints ns]
    rfl
theorem shaped_ints (ns : List Nat) : SeqAt.shaped (.tuple (ns.map fun (n : Nat) => PyData.int (n : Int))) = true := by
  show (PyData.canLayAll0 (ns.map fun (n : Nat) => PyData.int (n : Int)) && decide (PyData.depthAll (ns.map fun (n : Nat) => PyData.int (n : Int)) + 1 ≤ 64)) = true
  rw [lay_ints, dep_ints]
  rfl
theorem shaped_strs {L : List Str} (h : ∀ y ∈ L, NameOk y) : SeqAt.shaped (.tuple (L.map .str)) = true := by
  show (PyData.canLayAll0 (L.map .str) && decide (PyData.depthAll (L.map .str) + 1 ≤ 64)) = true
  rw [lay_strs h, dep_strs]
  rfl
theorem eqv_strs : ∀ (L M : List Str), PyData.eqv (.tuple (L.map .str)) (.tuple (M.map .str)) = decide (L = M)
  | [], [] => rfl
  | [], _ :: _ => rfl
  | _ :: _, [] => rfl
  | x :: L, y :: M => by
    have ih := eqv_strs L M
    show (x == y && PyData.eqv (.tuple (L.map .str)) (.tuple (M.map .str))) = _
    rw [ih]
    by_cases e : x = y
    · subst e
      simp
    · rw [beq_eq_false_iff_ne.mpr e, Bool.false_and, decide_eq_false fun q => e (List.cons.inj q).1]
theorem eqv_ints : ∀ (L M : List Nat), PyData.eqv (.tuple (L.map fun (n : Nat) => PyData.int (n : Int))) (.tuple (M.map fun (n : Nat) => PyData.int (n : Int))) = decide (L = M)
  | [], [] => rfl
  | [], _ :: _ => rfl
  | _ :: _, [] => rfl
  | x :: L, y :: M => by
    have ih := eqv_ints L M
    show (((x : Int) == (y : Int)) && PyData.eqv (.tuple (L.map fun (n : Nat) => PyData.int (n : Int))) (.tuple (M.map fun (n : Nat) => PyData.int (n : Int)))) = _
    rw [ih]
    by_cases e : x = y
    · subst e
      simp
    · have e2 : ((x : Int) == (y : Int)) = false := by
        rw [beq_eq_false_iff_ne]
        omega
      rw [e2, Bool.false_and, decide_eq_false fun q => e (List.cons.inj q).1]
theorem dp_ints {K : PySem.W.Frag} {H : Hp} : ∀ ns : List Nat, DpAll K H (ns.map fun (n : Nat) => V.int (n : Int)) (ns.map fun (n : Nat) => PyData.int (n : Int))
  | [] => .nil
  | n :: ns => .cons (.int _) (dp_ints ns)
theorem dp_strs {K : PySem.W.Frag} {H : Hp} : ∀ L : List Str, DpAll K H (L.map V.str) (L.map .str)
  | [] => .nil
  | x :: L => .cons (.str _) (dp_strs L)
theorem cut_last2 {ns : List Nat} : cutV (ns.map fun (n : Nat) => V.int (n : Int)) (some (-2)) none = (last2 ns).map fun (n : Nat) => V.int (n : Int) := by
  unfold cutV last2
  have h1 : HT.sIx (ns.map fun (n : Nat) => V.int (n : Int)).length 0 (some (-2)) = ns.length - 2 := by
    simp [HT.sIx]
    omega
  have h2 : HT.sIx (ns.map fun (n : Nat) => V.int (n : Int)).length (ns.map fun (n : Nat) => V.int (n : Int)).length none = ns.length := List.length_map ..
  rw [h1, h2, List.map_drop]
  exact List.take_of_length_le (by rw [List.length_drop, List.length_map]; exact Nat.le_refl _)
end PM
set_option Elab.async false
set_option linter.all false
set_option maxRecDepth 100000
set_option maxHeartbeats 4000000
/-! What the law's _law_is_followed is told of. -/
namespace PM
open PySem PySem.Spec PyProof.Rows L2 ZX ZR
theorem cutA {xs : List V} {n : Nat} (h : n ≤ xs.length) : cutV xs none (some (n : Int)) = xs.take n := by
  unfold cutV
  have h1 : HT.sIx xs.length 0 none = 0 := rfl
  rw [h1, HT.sIx_nat, List.drop_zero, Nat.sub_zero, Nat.min_eq_left h]
theorem cutB {xs : List V} {n : Nat} (h : n ≤ xs.length) : cutV xs (some (n : Int)) none = xs.drop n := by
  unfold cutV
  have h1 : HT.sIx xs.length xs.length none = xs.length := rfl
  rw [h1, HT.sIx_nat, Nat.min_eq_left h]
  exact List.take_of_length_le (by rw [List.length_drop]; exact Nat.le_refl _)
theorem cutC {xs : List V} {x : V} {n : Nat} (h : n ≤ xs.length) : cutV (xs ++ [x]) (some (n : Int)) (some (-1)) = xs.drop n := by
  unfold cutV
  have h2 : HT.sIx (xs ++ [x]).length (xs ++ [x]).length (some (-1)) = xs.length := by
    simp [HT.sIx]
    omega
  rw [h2, HT.sIx_nat, Nat.min_eq_left (by rw [List.length_append]; omega), List.drop_append_of_le_length h]
  exact List.take_left' (by rw [List.length_drop])
theorem WayP.take {b : List Rw} {p : Nat} {rest : List Nat} (h : WayP b p rest) : ∀ n, WayP b p (rest.take n) := by
  induction h with
  | done => exact fun n => by rw [List.take_nil]; exact .done
  | step hl hn hr h ih =>
    intro n
    cases n with
    | zero => exact .done
    | succ n => exact .step hl hn hr (ih n)
/-- behind the n-th place -/
theorem WayP.drop {b : List Rw} {p : Nat} {rest : List Nat} (h : WayP b p rest) : p ≤ (rowsB b).length → ∀ n, n ≤ rest.length → ∃ q, (p :: rest)[n]? = some q ∧ q ≤ (rowsB b).length ∧ WayP b q (rest.drop n) := by
  induction h with
  | @done p =>
    intro hp n hn
    obtain rfl : n = 0 := Nat.le_zero.mp hn
    exact ⟨p, rfl, hp, .done⟩
  | @step p m ls r rest hl hm hr h ih =>
    intro hp n hn
    cases n with
    | zero => exact ⟨p, rfl, hp, .step hl hm hr h⟩
    | succ n =>
      have hpr : p < (rowsB b).length := (List.getElem?_eq_some_iff.mp hr).1
      obtain ⟨q, h1, h2, h3⟩ := ih (leadsP_at hl hpr m hm) n (Nat.le_of_succ_le_succ hn)
      exact ⟨q, h1, h2, h3⟩
/-- but the last, all are rows -/
theorem WayP.rows {b : List Rw} {p : Nat} {rest : List Nat} (h : WayP b p rest) : ∀ q ∈ (p :: rest).dropLast, q < (rowsB b).length := by
  induction h with
  | done => exact fun q hq => nomatch hq
  | @step p m ls r rest hl hm hr h ih =>
    intro q hq
    have hq : q ∈ p :: (m :: rest).dropLast := hq
    rcases List.mem_cons.mp hq with rfl | hq
    · exact (List.getElem?_eq_some_iff.mp hr).1
    · exact ih q hq
section
variable {P : Program} {w : World} {K : PySem.W.Frag} {mg : Str → Option Value} {base : Heap} {fm : Fam P w K mg base} {S S' : NS} {l l' : fm.L} {A A' : AC} {b : List Rw} {p : Nat} {rest : List Nat}
theorem sim_run (h : RunS fm b S l p rest S' l') : ∀ {A A' : AC}, AcRun (rowsB b) A ((p :: rest).dropLast) A' → Sim S A → Sim S' A' := by
  induction h with
  | done =>
    intro A A' k s
    cases k
    exact s
  | @step S S1 S2 l l1 l2 p n ls r rest hl hn hr hd h ih =>
    intro A A' k s
    have k : AcRun (rowsB b) A (p :: (n :: rest).dropLast) A' := k
    cases k with
    | step hr2 hd2 k2 =>
      rw [hr] at hr2
      cases hr2
      exact ih k2 (s.step hd hd2)
end
/-- ascending, the same numbers: the same list -/
theorem asc_eq {is js : List Int} (h : is.Perm js) (h1 : is.Pairwise (· ≤ ·)) (h2 : js.Pairwise (· ≤ ·)) : is = js := List.Perm.eq_of_pairwise (fun _ _ _ _ a b => Int.le_antisymm a b) h1 h2 h
theorem cast_perm {ms ks : List Nat} (h1 : ms.Nodup) (h2 : ks.Nodup) (h : ∀ n, n ∈ ms ↔ n ∈ ks) : (ms.map fun (n : Nat) => (n : Int)).Perm (ks.map fun (n : Nat) => (n : Int)) := List.Perm.map _ ((List.perm_ext_iff_of_nodup h1 h2).mpr h)
/-- numbers put in order are numbers -/
theorem nat_ints {is : List Int} {ms : List Nat} (h : is.Perm (ms.map fun (n : Nat) => (n : Int))) : ∃ ls : List Nat, is = ls.map (fun (n : Nat) => (n : Int)) ∧ ∀ n, n ∈ ls ↔ n ∈ ms := by
  have e : is = (is.map Int.toNat).map (fun (n : Nat) => (n : Int)) := by
    rw [List.map_map]
    refine (List.map_id' is).symm.trans (List.map_congr_left fun x hx => ?_)
    obtain ⟨n, _, rfl⟩ := List.mem_map.mp (h.mem_iff.mp hx)
    show (n : Int) = ((Int.toNat (n : Int) : Nat) : Int)
    rw [Int.toNat_natCast]
  refine ⟨_, e, fun n => ?_⟩
  constructor
  · intro hn
    obtain ⟨x, hx, ex⟩ := List.mem_map.mp hn
    obtain ⟨m, hm, em⟩ := List.mem_map.mp (h.mem_iff.mp hx)
    rw [← ex, ← em]
    show Int.toNat (m : Int) ∈ ms
    rw [Int.toNat_natCast]
    exact hm
  · intro hn
    refine List.mem_map.mpr ⟨(n : Int), h.mem_iff.mpr (List.mem_map_of_mem hn), Int.toNat_natCast n⟩
theorem natV_cast (ls : List Nat) : (ls.map (fun (n : Nat) => (n : Int))).map V.int = natV ls := by
  unfold natV
  rw [List.map_map]
  rfl
theorem tv_ints {K : PySem.W.Frag} {H : Hp} {a : Addr} {ls : List Nat} (h : SqT K H a (natV ls)) : Tv K H (.ref a) (.tuple (ls.map fun (n : Nat) => PyData.int (n : Int))) := by
  refine .tup h ?_
  clear h
  induction ls with
  | nil => exact .nil
  | cons n ls ih => exact .cons (.int _) ih
theorem tv_strs {K : PySem.W.Frag} {H : Hp} {a : Addr} {ls : List Str} (h : SqT K H a (ls.map V.str)) : Tv K H (.ref a) (.tuple (ls.map .str)) := .tup h Tvs.ofStrs
/-- what a run's waiting tells is what the account holds -/
theorem waits_eq {S : NS} {A : AC} {ys : List Str} {ms ks : List Nat} {is js : List Int} (s : Sim S A) (hin : ∀ x t, S.heads x = some t → x ∈ ys) (hM : MetS S ms) (hnd : ms.Nodup) (hks : ks.Nodup) (hk : ∀ n, n ∈ ks ↔ ys.filter (bnB A n) ≠ []) (h1 : is.Perm (ms.map fun (n : Nat) => (n : Int))) (h2 : is.Pairwise (· ≤ ·)) (h3 : js.Perm (ks.map fun (n : Nat) => (n : Int))) (h4 : js.Pairwise (· ≤ ·)) : is = js := by
  refine asc_eq (h1.trans ((cast_perm hnd hks fun n => ?_).trans h3.symm)) h2 h4
  rw [hM.mem s, hk]
  constructor
  · rintro ⟨x, hx⟩
    have hxy : x ∈ ys := by
      obtain ⟨m, hm, _⟩ := hx
      have := s.heads x
      cases e : S.heads x with
      | none =>
        rw [e] at this
        have this : A.heads x = none := this
        rw [hm] at this
        cases this
      | some t => exact hin x t e
    intro z
    have : x ∈ ys.filter (bnB A n) := List.mem_filter.mpr ⟨hxy, bnB_iff.mpr hx⟩
    rw [z] at this
    cases this
  · intro hne
    obtain ⟨x, hx⟩ := List.exists_mem_of_ne_nil _ hne
    exact ⟨x, bnB_iff.mp (List.mem_filter.mp hx).2⟩
end PM
set_option Elab.async false
set_option linter.all false
set_option maxRecDepth 100000
set_option maxHeartbeats 4000000
/-! The law's _law_is_followed. -/
namespace PM
open PySem PySem.Spec PyProof.Rows L2 ZX ZR
theorem mem_row {b : List Rw} {q : Nat} (h : q < (rowsB b).length) : (rowsB b)[q]? = some (rowsB b)[q] := List.getElem?_eq_getElem h
theorem AcRun.snoc {rows : List Rw} {A A1 A2 : AC} {ps : List Nat} {p : Nat} {r : Rw} (h : AcRun rows A ps A1) (hr : rows[p]? = some r) (hd : AcDo A1 r A2) : AcRun rows A (ps ++ [p]) A2 := h.app (.step hr hd .done)
theorem same_fz {H H1 H' : Hp} {M : List Addr} (s : Same H H1) (n : ∀ c ∈ M, H c = none) (z : Fz M H1 H') : Same H H' := fun b u e => z.keep b u (fun hm => by
  have := n b hm
  rw [e] at this
  cases this) (s b u e)
theorem HS.fz {K : PySem.W.Frag} {H H' : Hp} {d : Addr} {kvs : List (Key × V)} {ks : List Nat} {L : Nat → List Str} {M : List Addr} (h : HS K H d kvs ks L) (z : Fz M H H') (m : Mks M H) (hd : d ∉ M) : HS K H' d kvs ks L := ⟨z.keep _ _ hd h.hd, h.hk, h.nd, h.mem, fun n hn => by
  obtain ⟨a, h1, h2⟩ := h.val n hn
  exact ⟨a, h1, (z.pt m).sq h2⟩⟩
theorem HS.small {K : PySem.W.Frag} {H : Hp} {d : Addr} {kvs : List (Key × V)} {ks : List Nat} {ys : List Str} {A : AC} (h : HS K H d kvs ks (fun n => ys.filter (bnB A n))) (wf : WfA A) {m : Nat} (hm : A.parts.length ≤ m) : ks.length ≤ m := nodup_lt h.nd fun n hn => by
  obtain ⟨x, hx⟩ := List.exists_mem_of_ne_nil _ ((h.mem n).mp hn)
  obtain ⟨j, hj, hr⟩ := bnB_iff.mp (List.mem_filter.mp hx).2
  have := Nat.lt_of_le_of_lt (hr.lt wf) (wf.hlow _ _ hj)
  omega
theorem HS.keysI {K : PySem.W.Frag} {H : Hp} {d : Addr} {kvs : List (Key × V)} {ks : List Nat} {L : Nat → List Str} (h : HS K H d kvs ks L) : kvs.map (·.1) = (ks.map fun (n : Nat) => (n : Int)).map Sum.inl := by
  rw [h.hk, List.map_map]
  rfl
end PM
namespace K24
open PySem PySem.Spec PyProof.Rows L2 ZX PM ZR
abbrev sLFoll : Stmt := top 79
section
variable {P : Program} {w : World} {K : PySem.W.Frag} {mg : Str → Option Value} {base : Heap} {CP CN CR : Addr}
theorem AcAt.init {H : Hp} {B : AcA} (ha : H B.a = some (.dK (acKV B))) (h1 : H B.hd = some (.dK [])) (h2 : H B.pa = some (.lst [])) (h3 : H B.wk = some (.dK [])) (d1 : B.hd ≠ B.wk) (d2 : B.a ≠ B.hd) (d3 : B.a ≠ B.wk) : AcAt H B AC0 0 :=
  ⟨ha, ⟨[], h1, Nat.le_refl _, fun x => rfl⟩, ⟨[], h2, .nil⟩, h3, List.nodup_nil, d1, d2, d3⟩
def spLFoll (K : PySem.W.Frag) (CP : Addr) : Sp := fun vs H Q _ => ∃ (px l t wy : Addr) (cut : Nat) (us : List V) (b : List Rw) (ys : List Str) (rest : List Nat), vs = [.ref px, .ref l, .ref t, .ref wy, .int (cut : Nat)] ∧ PrAt K CP H px b ∧ PrD CP H px ∧ H l = some (.lst us) ∧ Tvs K H us ((tabB b).map dE) ∧ Good b ∧
  IsLot ys ((rowsB b).flatMap namesR) ∧ H t = some (.lst (ys.map V.str)) ∧ SqT K H wy (plV (0 :: rest)) ∧ WayP b 0 rest ∧ rest.length ≤ 41 ∧ cut ≤ rest.length ∧ ∀ H', Same H H' → Q (.bl true) H'
abbrev NLF : List Str := ["_law_program", "_law_table_here", "_law_names_here", "_law_way", "_law_cut", "_law_account", "_law_place", "_law_ahead", "_law_behind", "_law_functions_here", "_law_waiting", "_law_number", "_law_due", "_law_lot_here"]
theorem scLFoll : FnScope NLF ["_law_program", "_law_table_here", "_law_names_here", "_law_way", "_law_cut"] (defScope sLFoll) := ⟨rfl, rfl, rfl, by decide +kernel, rfl, by decide +kernel, by decide +kernel⟩
theorem ok_lfoll {fC f : Addr} {fd : FuncData} (F : FnP K "_law_is_followed" sLFoll f fd) (T : Bi mg) (bso : mg "sorted" = none) (CC : Callee P w K mg base 1 fC (fun _ => True) (spLCount K)) (C_do : Cal P w K mg base "_law_do" 2 ["_law_account", "_law_row"] (spLDo K)) (C_held : Cal P w K mg base "_law_held" 2 ["_law_account", "_law_names_here"] (spLHeld K)) (C_funs : Cal P w K mg base "_law_functions" 1 ["_law_table_here"] (spLFuns K fC))
    (C_told : Cal P w K mg base "told" 29 ["program", "way", "functions"] (spTold P w K mg base CP CN CR)) (M_waiting : MCal P w K mg base CR "waiting" 4 ["self"] (spRWaiting P w K mg base CP CN CR)) (C_holders : CalX P w K mg base "holders" 4 ["program", "way", "lot"] (spHolders K CP)) : FnOk P w K mg base CX0 30 f fd ["_law_program", "_law_table_here", "_law_names_here", "_law_way", "_law_cut"] (spLFoll K CP) := by
  refine F.ok scLFoll (fun vs H Q E h => ?_) (fun cdv A0 outer s H vs Q E hr h => ?_)
  · obtain ⟨px, l, t, wy, cut, us, b, ys, rest, rfl, _⟩ := h
    rfl
  · obtain ⟨px, l, t, wy, cut, us, b, ys, rest, rfl, hP, hPD, hl, hu, G, hlot, ht, hwy, hway, h41, hcut, k⟩ := h
    have hun := hu_of hr
    have hr1 := hr.mono (show 1 ≤ 29 by decide)
    have hr2 := hr.mono (show 2 ≤ 29 by decide)
    have hr4 := hr.mono (show 4 ≤ 29 by decide)
    refine ⟨_, PSs.nox (pss_cut (ps_set (i := 5) scLFoll.nd rfl (Or.inl rfl) (pe_disp (pps_cons pe_str pe_dnewK (pps_cons pe_str (pe_lst pa_nil) (pps_cons pe_str pe_dnewK pps_nil))) (by rfl) (by rfl) (fun z => by cases z) (by decide)))
    (pss_cut (ps_for PassesOwn.never rfl (pi_tup (pe_slice sl_tupZ (pv 3) po_none (po_some (pv 4)))) (pg_name (i := 6) scLFoll.nd rfl (Or.inl rfl)) (pss_one (ps_expr (pcal C_do hr2 rfl (pa_cons (pv 5) (pa_cons (pe_ix ix_tup (pe_ix ix_list (pv 1) (pv 6) (fun _ _ => rfl)) pe_int (fun _ _ => rfl)) pa_nil))))))
    (pss_cut (ps_set (i := 7) scLFoll.nd rfl (Or.inl rfl) (pcal C_held hr2 rfl (pa_cons (pv 5) (pa_cons (pv 2) pa_nil))))
    (pss_cut (ps_for PassesOwn.never rfl (pi_tup (pe_slice sl_tupZ (pv 3) (po_some (pv 4)) (po_some (pe_un un_neg pe_int)))) (pg_name (i := 6) scLFoll.nd rfl (Or.inl rfl)) (pss_one (ps_expr (pcal C_do hr2 rfl (pa_cons (pv 5) (pa_cons (pe_ix ix_tup (pe_ix ix_list (pv 1) (pv 6) (fun _ _ => rfl)) pe_int (fun _ _ => rfl)) pa_nil))))))
    (pss_cut (ps_set (i := 8) scLFoll.nd rfl (Or.inl rfl) (pcal C_held hr2 rfl (pa_cons (pv 5) (pa_cons (pv 2) pa_nil))))
    (pss_cut (ps_set (i := 9) scLFoll.nd rfl (Or.inl rfl) (pcal C_funs hr1 rfl (pa_cons (pv 1) pa_nil)))
    (pss_cut (ps_if (pt_cmpR (op_neD hr.units) (pmc0 M_waiting hr4 (pcal C_told hr rfl (pa_cons (pv 0) (pa_cons (pe_slice sl_tupZ (pv 3) po_none (po_some (pe_op op_add (pv 4) pe_int))) (pa_cons (pv 9) pa_nil))))) (pe_callTy call_tuple_of (by rfl) T.b_tuple (by decide +kernel) (pa_cons (pe_callB (call_sortedDI rfl) (by rfl) bso (by decide +kernel) (pa_cons (pv 7) pa_nil)) pa_nil)) (nomark _)) (pss_one (ps_ret pe_bl)) pss_nil)
    (pss_cut (ps_set (i := 10) scLFoll.nd rfl (Or.inl rfl) (pmc0 M_waiting hr4 (pcal C_told hr rfl (pa_cons (pv 0) (pa_cons (pv 3) (pa_cons (pv 9) pa_nil))))))
    (pss_cut (ps_if (pt_cmpR (op_neD hr.units) (pv 10) (pe_callTy call_tuple_of (by rfl) T.b_tuple (by decide +kernel) (pa_cons (pe_callB (call_sortedDI rfl) (by rfl) bso (by decide +kernel) (pa_cons (pv 8) pa_nil)) pa_nil)) (nomark _)) (pss_one (ps_ret pe_bl)) pss_nil)
    (pss_cut (ps_for PassesOwn.never rfl (pi_list (pe_callB (call_sortedDI rfl) (by rfl) bso (by decide +kernel) (pa_cons (pv 7) pa_nil))) (pg_name (i := 11) scLFoll.nd rfl (Or.inl rfl)) (pss_cons (ps_set (i := 12) scLFoll.nd rfl (Or.inl rfl) (pe_ifExp (pt_cmp (pc_din hun (pv 11) (pe_dget hun (pv 5) pe_str (fun _ _ => rfl)))) pe_non (pe_dget2 hun (pv 8) (pv 11) (pe_tup pa_nil) ⟨rfl, rfl, rfl, rfl⟩)))
      (pss_cons (ps_set (i := 13) scLFoll.nd rfl (Or.inl rfl) (pcalN C_holders hr4 rfl (pa_cons (pv 0) (pa_cons (pe_slice sl_tupZ (pv 3) (po_some (pv 4)) po_none) (pa_cons (pe_dget hun (pv 7) (pv 11) (fun _ _ => rfl)) pa_nil)))))
      (pss_one (ps_if (PW.pt (pw_or (pt_cmpR (op_neD hr.units) (pv 13) (pv 12) (nomark _)) (pw_or1 (pt_cmpR op_ne (pe_cmpR op_in_seq (pv 11) (pv 10) (by with_unfolding_all rfl)) (pe_and (pe_cmpR op_notN (pv 13) pe_non (nomark _)) (pe_one (pe_cmpR (op_neD hr.units) (pv 13) (pe_tup pa_nil) (nomark _)))) (nomark _))))) (pss_one (ps_ret pe_bl)) pss_nil)))))
    (pss_one (ps_ret pe_bl)))))))))))), ?_⟩
    -- the account
    refine ⟨fun σ1 H1 => ∃ B, σ1 = [some (.ref px), some (.ref l), some (.ref t), some (.ref wy), some (.int (cut : Nat)), some (.ref B.a), none, none, none, none, none, none, none, none] ∧ Same H H1 ∧ (∀ c ∈ B.a :: B.own, H c = none) ∧ AcAt H1 B AC0 0, ?_, ?_⟩
    · intro a na
      intro hd nhd
      refine ⟨by decide, fun pa npa => ?_⟩
      intro wk nwk
      have e1 : a ≠ hd := ne_of_none (upd_same (H := H) (a := a) (o := .dK [])) nhd
      have e2 : a ≠ pa := ne_of_none (show upd (upd H a (.dK [])) hd (.dK []) a = some (.dK []) by rw [upd_ne e1]; exact upd_same) npa
      have e3 : a ≠ wk := ne_of_none (show upd (upd (upd H a (.dK [])) hd (.dK [])) pa (.lst []) a = some (.dK []) by rw [upd_ne e2, upd_ne e1]; exact upd_same) nwk
      have e4 : hd ≠ pa := ne_of_none (upd_same (H := upd H a (.dK [])) (a := hd) (o := .dK [])) npa
      have e5 : hd ≠ wk := ne_of_none (show upd (upd (upd H a (.dK [])) hd (.dK [])) pa (.lst []) hd = some (.dK []) by rw [upd_ne e4]; exact upd_same) nwk
      have e6 : pa ≠ wk := ne_of_none (upd_same (H := upd (upd H a (.dK [])) hd (.dK [])) (a := pa) (o := .lst [])) nwk
      have s1 : Same H (upd H a (.dK [])) := same_new na
      have s2 := s1.trans (same_new (o := .dK []) nhd)
      have s3 := s2.trans (same_new (o := .lst []) npa)
      have s4 := s3.trans (same_new (o := .dK []) nwk)
      refine ⟨show upd (upd (upd (upd H a (.dK [])) hd (.dK [])) pa (.lst [])) wk (.dK []) a = some (.dK []) by rw [upd_ne e3, upd_ne e2, upd_ne e1]; exact upd_same, acKV ⟨a, hd, pa, wk⟩, rfl, by show 3 ≤ 15; decide, ?_⟩
      refine ⟨⟨a, hd, pa, wk⟩, rfl, same_putN s4 na, fun c hc => ?_, AcAt.init upd_same ?_ ?_ ?_ e5 e1 e3⟩
      · simp only [AcA.own, List.mem_cons, List.not_mem_nil, or_false] at hc
        rcases hc with rfl | rfl | rfl | rfl
        · exact na
        · exact s1.free nhd
        · exact s2.free npa
        · exact s3.free nwk
      · show upd _ a _ hd = _
        rw [upd_ne (Ne.symm e1), upd_ne e5, upd_ne e4]
        exact upd_same
      · show upd _ a _ pa = _
        rw [upd_ne (Ne.symm e2), upd_ne e6]
        exact upd_same
      · show upd _ a _ wk = _
        rw [upd_ne (Ne.symm e3)]
        exact upd_same
    rintro σ1 H1 ⟨B, rfl, s1, hB, hA1⟩
    have hBo : ∀ c ∈ B.own, H c = none := fun c hc => hB c (List.mem_cons_of_mem _ hc)
    obtain ⟨ws, z0, hwz⟩ : ∃ ws z, (0 :: rest : List Nat) = ws ++ [z] := (snoc_or (0 :: rest)).resolve_left fun z => nomatch z
    have hwl : ws.length = rest.length := by
      have := congrArg List.length hwz
      rw [List.length_append] at this
      exact (Nat.succ.inj this).symm
    have hwr : ∀ q ∈ ws, q < (rowsB b).length := fun q hq => by
      have := hway.rows q
      rw [hwz, List.dropLast_concat] at this
      exact this hq
    have hn4 := ok_names_B G.ok
    have hys8 : ys.length ≤ 8 := G.n8 ys hlot
    have hnok : ∀ y ∈ (rowsB b).flatMap namesR, NameOk y := fun y hy => nm_lot G.ok hlot y ((hlot.me y).mpr hy)
    have hn3 : ∀ (q : Nat) (h : q < (rowsB b).length) x o ps, (rowsB b)[q] = .note x o ps → ps.length ≤ 3 := fun q h x o ps e => by
      have := hn4 _ (List.getElem_mem h)
      rw [e] at this
      exact Nat.le_of_succ_le_succ this
    have hplw : (plV ws).length = rest.length := by
      unfold plV
      rw [List.length_map, hwl]
    have hplc : plV (0 :: rest) = plV ws ++ [V.int (z0 : Nat)] := by
      rw [hwz, plV_app]
      rfl
    -- the rows before the cut
    refine ⟨fun σ2 H2 => ∃ A1 y6, σ2 = [some (.ref px), some (.ref l), some (.ref t), some (.ref wy), some (.int (cut : Nat)), some (.ref B.a), y6, none, none, none, none, none, none, none] ∧ Same H H2 ∧ AcAt H2 B A1 cut ∧ AcRun (rowsB b) AC0 (ws.take cut) A1, ?_, ?_⟩
    · refine ⟨_, rfl, _, rfl, _, rfl, wy, _, rfl, s1.pt.sq hwy, fun wc H3 s3 hwc => ⟨wc, rfl, ⟨_, hwc⟩, ?_⟩⟩
      rw [cutA (by rw [hplc, List.length_append, hplw]; omega), hplc, List.take_append_of_le_length (by rw [hplw]; exact hcut)] at hwc
      have hseg : (plV ws).take cut = plV (ws.take cut) := by
        unfold plV
        rw [List.map_take]
      rw [hseg] at hwc
      have hcl : (ws.take cut).length = cut := by
        rw [List.length_take, hwl]
        exact Nat.min_eq_left hcut
      refine for_tup (xs := plV (ws.take cut)) (fun i σ' H' => ∃ A1 y6, σ' = [some (.ref px), some (.ref l), some (.ref t), some (.ref wy), some (.int (cut : Nat)), some (.ref B.a), y6, none, none, none, none, none, none, none] ∧ Fz B.own H1 H' ∧ SqT K H' wc (plV (ws.take cut)) ∧ AcAt H' B A1 i ∧ AcRun (rowsB b) AC0 ((ws.take cut).take i) A1) ⟨AC0, _, rfl, s3.fz hA1.mks, hwc, hA1.same s3, by rw [List.take_zero]; exact .done⟩ ?_ ?_ ?_
      · rintro i σ' H' _ ⟨_, _, _, _, h, _⟩
        exact h
      · rintro i x σ' H' hx ⟨A1, y6, rfl, zz, hwc', hA', hrun⟩
        obtain ⟨p, hp, rfl⟩ : ∃ p, (ws.take cut)[i]? = some p ∧ x = V.int (p : Nat) := by
          unfold plV at hx
          rw [List.getElem?_map] at hx
          cases e : (ws.take cut)[i]? with
          | none => rw [e] at hx; cases hx
          | some p => rw [e] at hx; exact ⟨p, rfl, (Option.some.inj hx).symm⟩
        have hil : i < (ws.take cut).length := (List.getElem?_eq_some_iff.mp hp).1
        have hpr := hwr p (List.mem_of_mem_take (List.mem_of_getElem? hp))
        have hr0 := mem_row hpr
        have sm := same_fz s1 hBo zz
        have wf := hrun.wf wfA0
        have hgr := hrun.grow.2.2
        rw [List.length_take] at hgr
        have hgr : A1.parts.length ≤ 0 + _ := hgr
        obtain ⟨ea, ex, ey, ls, hea, hES, hEr, _⟩ := tab_get hu hr0
        refine ⟨_, rfl, _, rfl, _, rfl, l, _, _, _, rfl, rfl, SqL.of (sm _ _ hl), at_of (j := p) rfl hea, ea, _, _, _, rfl, rfl, sm.pt.sq hES, rfl, B, A1, i, ex, _, rfl, hA', wf, by omega, by omega, hEr.pt sm.pt, hn3 p hpr, fun A2 H4 z4 hA4 hD => ?_⟩
        have etk : (ws.take cut).take (i + 1) = (ws.take cut).take i ++ [p] := by
          rw [List.take_succ, hp]
          rfl
        exact ⟨A2, _, rfl, zz.trans z4, (z4.pt hA'.mks).sq hwc', hA4, by rw [etk]; exact hrun.snoc hr0 hD⟩
      · rintro σ' H' ⟨A1, y6, rfl, zz, hwc', hA', hrun⟩
        have e : (plV (ws.take cut)).length = (ws.take cut).length := List.length_map ..
        rw [e, hcl] at hA'
        rw [e, List.take_length] at hrun
        exact ⟨A1, _, rfl, same_fz s1 hBo zz, hA', hrun⟩
    rintro σ2 H2 ⟨A1, y6, rfl, s2, hA2, hrun1⟩
    have wf1 := hrun1.wf wfA0
    have hg1 : A1.parts.length ≤ cut := by
      have := hrun1.grow.2.2
      rw [List.length_take] at this
      have this : A1.parts.length ≤ 0 + _ := this
      omega
    -- what the names hold there
    refine ⟨fun σ3 H3 => ∃ d1 kvs1 ks1, σ3 = [some (.ref px), some (.ref l), some (.ref t), some (.ref wy), some (.int (cut : Nat)), some (.ref B.a), y6, some (.ref d1), none, none, none, none, none, none] ∧ Same H H3 ∧ AcAt H3 B A1 cut ∧ d1 ∉ B.own ∧ HS K H3 d1 kvs1 ks1 (fun n => ys.filter (bnB A1 n)), ?_, ?_⟩
    · refine ⟨_, rfl, _, rfl, B, A1, cut, t, ys, rfl, hA2, wf1, by omega, s2 _ _ ht, by omega, fun d kvs ks H' s' nd hS => ⟨d, kvs, ks, rfl, s2.trans s', hA2.same s', fun hm => ?_, hS⟩⟩
      rcases hA2.mks d hm with ⟨_, e⟩ | ⟨_, e⟩ <;> rw [nd] at e <;> cases e
    rintro σ3 H3 ⟨d1, kvs1, ks1, rfl, s3, hA3, nd1, hS3⟩
    have hsl : (ws.drop cut).length = rest.length - cut := by rw [List.length_drop, hwl]
    -- the rows behind the cut
    refine ⟨fun σ4 H4 => ∃ A2 y6, σ4 = [some (.ref px), some (.ref l), some (.ref t), some (.ref wy), some (.int (cut : Nat)), some (.ref B.a), y6, some (.ref d1), none, none, none, none, none, none] ∧ Same H H4 ∧ AcAt H4 B A2 rest.length ∧ AcRun (rowsB b) A1 (ws.drop cut) A2 ∧ HS K H4 d1 kvs1 ks1 (fun n => ys.filter (bnB A1 n)), ?_, ?_⟩
    · refine ⟨_, rfl, _, rfl, _, rfl, _, rfl, _, rfl, wy, _, rfl, s3.pt.sq hwy, fun wc H4 s4 hwc => ⟨wc, rfl, ⟨_, hwc⟩, ?_⟩⟩
      rw [hplc, cutC (by rw [hplw]; exact hcut)] at hwc
      have hseg : (plV ws).drop cut = plV (ws.drop cut) := by
        unfold plV
        rw [List.map_drop]
      rw [hseg] at hwc
      refine for_tup (xs := plV (ws.drop cut)) (fun i σ' H' => ∃ A2 y6, σ' = [some (.ref px), some (.ref l), some (.ref t), some (.ref wy), some (.int (cut : Nat)), some (.ref B.a), y6, some (.ref d1), none, none, none, none, none, none] ∧ Fz B.own H3 H' ∧ SqT K H' wc (plV (ws.drop cut)) ∧ AcAt H' B A2 (cut + i) ∧ AcRun (rowsB b) A1 ((ws.drop cut).take i) A2) ⟨A1, _, rfl, s4.fz hA3.mks, hwc, hA3.same s4, by rw [List.take_zero]; exact .done⟩ ?_ ?_ ?_
      · rintro i σ' H' _ ⟨_, _, _, _, h, _⟩
        exact h
      · rintro i x σ' H' hx ⟨A2, y6, rfl, zz, hwc', hA', hrun⟩
        obtain ⟨p, hp, rfl⟩ : ∃ p, (ws.drop cut)[i]? = some p ∧ x = V.int (p : Nat) := by
          unfold plV at hx
          rw [List.getElem?_map] at hx
          cases e : (ws.drop cut)[i]? with
          | none => rw [e] at hx; cases hx
          | some p => rw [e] at hx; exact ⟨p, rfl, (Option.some.inj hx).symm⟩
        have hil : i < (ws.drop cut).length := (List.getElem?_eq_some_iff.mp hp).1
        have hpr := hwr p (List.mem_of_mem_drop (List.mem_of_getElem? hp))
        have hr0 := mem_row hpr
        have sm := same_fz s3 hBo zz
        have wf := hrun.wf wf1
        have hgr := hrun.grow.2.2
        rw [List.length_take] at hgr
        obtain ⟨ea, ex, ey, ls, hea, hES, hEr, _⟩ := tab_get hu hr0
        refine ⟨_, rfl, _, rfl, _, rfl, l, _, _, _, rfl, rfl, SqL.of (sm _ _ hl), at_of (j := p) rfl hea, ea, _, _, _, rfl, rfl, sm.pt.sq hES, rfl, B, A2, cut + i, ex, _, rfl, hA', wf, by omega, by omega, hEr.pt sm.pt, hn3 p hpr, fun A3 H5 z5 hA5 hD => ?_⟩
        have etk : (ws.drop cut).take (i + 1) = (ws.drop cut).take i ++ [p] := by
          rw [List.take_succ, hp]
          rfl
        exact ⟨A3, _, rfl, zz.trans z5, (z5.pt hA'.mks).sq hwc', hA5, by rw [etk]; exact hrun.snoc hr0 hD⟩
      · rintro σ' H' ⟨A2, y6, rfl, zz, hwc', hA', hrun⟩
        have e : (plV (ws.drop cut)).length = (ws.drop cut).length := List.length_map ..
        rw [e, hsl] at hA'
        rw [e, List.take_length] at hrun
        exact ⟨A2, _, rfl, same_fz s3 hBo zz, hA'.mono (by omega), hrun, hS3.fz zz hA3.mks nd1⟩
    rintro σ4 H4 ⟨A2, y6, rfl, s4, hA4, hrun2, hS4⟩
    have wf2 := hrun2.wf wf1
    have hg2 : A2.parts.length ≤ 41 := by
      have := hrun2.grow.2.2
      rw [hsl] at this
      omega
    have hg1' : A1.parts.length ≤ 41 := by omega
    -- what the names hold at the end
    refine ⟨fun σ5 H5 => ∃ d2 kvs2 ks2, σ5 = [some (.ref px), some (.ref l), some (.ref t), some (.ref wy), some (.int (cut : Nat)), some (.ref B.a), y6, some (.ref d1), some (.ref d2), none, none, none, none, none] ∧ Same H H5 ∧ AcAt H5 B A2 rest.length ∧ HS K H5 d1 kvs1 ks1 (fun n => ys.filter (bnB A1 n)) ∧ HS K H5 d2 kvs2 ks2 (fun n => ys.filter (bnB A2 n)), ?_, ?_⟩
    · refine ⟨_, rfl, _, rfl, B, A2, rest.length, t, ys, rfl, hA4, wf2, by omega, s4 _ _ ht, by omega, fun d kvs ks H' s' nd hS => ⟨d, kvs, ks, rfl, s4.trans s', hA4.same s', hS4.same s', hS⟩⟩
    rintro σ5 H5 ⟨d2, kvs2, ks2, rfl, s5, hA5, hS15, hS25⟩
    -- the functions
    refine ⟨fun σ6 H6 => ∃ fa kvf, σ6 = [some (.ref px), some (.ref l), some (.ref t), some (.ref wy), some (.int (cut : Nat)), some (.ref B.a), y6, some (.ref d1), some (.ref d2), some (.ref fa), none, none, none, none] ∧ Same H H6 ∧ Same H5 H6 ∧ H6 fa = some (.dK kvf) ∧ ∀ o ∈ opsB b, valV kvf (.inr o) = some (.ref fC), ?_, ?_⟩
    · exact ⟨_, rfl, l, us, b, rfl, s5 _ _ hl, hu.pt s5.pt, G, fun d kvs H' s' nd hd ho => ⟨d, kvs, rfl, s5.trans s', s', hd, ho⟩⟩
    rintro σ6 H6 ⟨fa, kvf, rfl, s6, s56, hfa, hops⟩
    have hA6 := hA5.same s56
    have hS16 := hS15.same s56
    have hS26 := hS25.same s56
    have hk1 := hS16.small wf1 hg1'
    have hk2 := hS26.small wf2 hg2
    have hns63 : ys.length < 64 := by omega
    have hnin : ∀ x ∈ (rowsB b).flatMap namesR, x ∈ ys := fun x hx => (hlot.me x).mpr hx
    have hfn : ∀ o ∈ opsB b, valV kvf (.inr o) = some (.ref ((fun _ : Str => fC) o)) ∧ (fmC P w K mg base fC CC).Fn o ((fun _ : Str => fC) o) H6 := fun o ho => ⟨hops o ho, rfl⟩
    have htk : (0 :: rest.take cut : List Nat).dropLast = ws.take cut := by
      rw [List.dropLast_eq_take]
      have e1 : (0 :: rest.take cut : List Nat).length - 1 = cut := by
        rw [List.length_cons, List.length_take, Nat.min_eq_left hcut]
        rfl
      have e2 : (0 :: rest.take cut : List Nat) = (0 :: rest).take (cut + 1) := rfl
      rw [e1, e2, List.take_take, Nat.min_eq_left (Nat.le_succ _), hwz, List.take_append_of_le_length (by rw [hwl]; exact hcut)]
    -- what waits at the cut
    refine ⟨fun σ7 H7 => σ7 = [some (.ref px), some (.ref l), some (.ref t), some (.ref wy), some (.int (cut : Nat)), some (.ref B.a), y6, some (.ref d1), some (.ref d2), some (.ref fa), none, none, none, none] ∧ Same H6 H7, ?_, ?_⟩
    · refine ⟨_, rfl, _, rfl, _, rfl, _, _, rfl, rfl, _, rfl, wy, _, rfl, s6.pt.sq hwy, fun wc H7 s7 hwc => ?_⟩
      have ecut : ((cut : Nat) : Int) + 1 = ((cut + 1 : Nat) : Int) := by omega
      rw [ecut, cutA (by rw [hplc, List.length_append, hplw]; exact Nat.succ_le_succ hcut)] at hwc
      have hseg : (plV (0 :: rest)).take (cut + 1) = plV (0 :: rest.take cut) := by
        unfold plV
        rw [← List.map_take]
        rfl
      rw [hseg] at hwc
      refine ⟨_, rfl, fmC P w K mg base fC CC, ys, px, wc, fa, (), b, kvf, fun _ => fC, rest.take cut, rfl, (hP.same s6).same s7, (hPD.same s6).same s7, hwc, hway.take cut, by rw [List.length_take]; omega, s7 _ _ hfa, fun o ho => ⟨hops o ho, rfl⟩, trivial, fun _ h => (nomatch (show _ ∈ ([] : List Addr) from h)), List.nodup_nil, hnin, hns63, by show 1 ≤ 20; decide, fun x A F S' l' wa H8 z8 R hRun => ?_⟩
      have s78 : Same H7 H8 := fun b' u e => z8.keep b' u (fun h => nomatch (show b' ∈ ([] : List Addr) from h)) e
      obtain ⟨dx, hx⟩ := R.rx
      refine ⟨x, dx, _, rfl, hx, rfl, _, F, ys, x, A, S', l', px, b, wa, _, rfl, R, fun q ms is H9 s9 hq hM hnd hlt hperm hpw => ?_⟩
      have s69 := (s7.trans s78).trans s9
      have hS19 := hS16.same s69
      refine ⟨_, rfl, d1, kvs1, ks1.map (fun (n : Nat) => (n : Int)), rfl, .inl hS19.hd, hS19.keysI, by rw [List.length_map]; omega, fun js p hjp hjw np => ⟨p, _, rfl, .inl ⟨SqL.of upd_same, fun q2 nq2 => ?_⟩⟩⟩
      have sim := sim_run hRun (by rw [htk]; exact hrun1) sim0
      have eij : is = js := waits_eq sim (fun y u e => R.nt.wf.hin y u e) hM hnd hS16.nd hS16.mem hperm hpw hjp hjw
      subst eij
      obtain ⟨ls, els, _⟩ := nat_ints hperm
      subst els
      rw [natV_cast] at hq
      have s9p := same_new (o := .lst ((ls.map (fun (n : Nat) => (n : Int))).map V.int)) np
      have s9q := same_new (o := .tup ((ls.map (fun (n : Nat) => (n : Int))).map V.int)) nq2
      refine ⟨_, _, (tv_ints ((s9p.trans s9q).pt.sq hq)).dp, (tv_ints (a := q2) (ls := ls) (.inl (.inl (by rw [upd_same, natV_cast])))).dp, shaped_ints ls, shaped_ints ls, ?_⟩
      rw [eqv_ints, decide_eq_true rfl]
      exact ⟨_, rfl, ifBF rfl ⟨rfl, (s69.trans s9p).trans s9q⟩⟩
    rintro σ7 H7 ⟨rfl, s67⟩
    have s7 := s6.trans s67
    -- what waits at the end
    refine ⟨fun σ8 H8 => ∃ q8 ls2, σ8 = [some (.ref px), some (.ref l), some (.ref t), some (.ref wy), some (.int (cut : Nat)), some (.ref B.a), y6, some (.ref d1), some (.ref d2), some (.ref fa), some (.ref q8), none, none, none] ∧ Same H6 H8 ∧ SqT K H8 q8 (natV ls2) ∧ (∀ js : List Int, js.Perm (ks2.map fun (n : Nat) => (n : Int)) → js.Pairwise (· ≤ ·) → ls2.map (fun (n : Nat) => (n : Int)) = js) ∧ ∀ n, n ∈ ls2 ↔ n ∈ ks2, ?_, ?_⟩
    · refine ⟨_, rfl, _, rfl, _, rfl, fmC P w K mg base fC CC, ys, px, wy, fa, (), b, kvf, fun _ => fC, rest, rfl, hP.same s7, hPD.same s7, s7.pt.sq hwy, hway, by omega, s67 _ _ hfa, fun o ho => ⟨hops o ho, rfl⟩, trivial, fun _ h => (nomatch (show _ ∈ ([] : List Addr) from h)), List.nodup_nil, hnin, hns63, by show 1 ≤ 20; decide, fun x A F S' l' wa H8 z8 R hRun => ?_⟩
      have s78 : Same H7 H8 := fun b' u e => z8.keep b' u (fun h => nomatch (show b' ∈ ([] : List Addr) from h)) e
      obtain ⟨dx, hx⟩ := R.rx
      refine ⟨x, dx, _, rfl, hx, rfl, _, F, ys, x, A, S', l', px, b, wa, _, rfl, R, fun q ms is H9 s9 hq hM hnd hlt hperm hpw => ?_⟩
      have hdl : (0 :: rest : List Nat).dropLast = ws.take cut ++ ws.drop cut := by
        rw [hwz, List.dropLast_concat, List.take_append_drop]
      have sim := sim_run hRun (by rw [hdl]; exact hrun1.app hrun2) sim0
      obtain ⟨ls, els, hmem⟩ := nat_ints hperm
      subst els
      rw [natV_cast] at hq
      have hin : ∀ (y : Str) (u : Th), S'.heads y = some u → y ∈ ys := fun y u e => R.nt.wf.hin y u e
      refine ⟨q, ls, rfl, (s67.trans s78).trans s9, hq, fun js h1 h2 => waits_eq sim hin hM hnd hS26.nd hS26.mem hperm hpw h1 h2, fun n => ?_⟩
      rw [hmem, hM.mem sim, hS26.mem]
      constructor
      · rintro ⟨y, hy⟩ z
        have hyy : y ∈ ys := by
          obtain ⟨m, hm, _⟩ := hy
          have := sim.heads y
          cases e : S'.heads y with
          | none =>
            rw [e] at this
            have this : A2.heads y = none := this
            rw [hm] at this
            cases this
          | some u => exact hin y u e
        have : y ∈ ys.filter (bnB A2 n) := List.mem_filter.mpr ⟨hyy, bnB_iff.mpr hy⟩
        have z : ys.filter (bnB A2 n) = [] := z
        rw [z] at this
        cases this
      · intro hne
        obtain ⟨y, hy⟩ := List.exists_mem_of_ne_nil _ hne
        exact ⟨y, bnB_iff.mp (List.mem_filter.mp hy).2⟩
    rintro σ8 H8 ⟨q8, ls2, rfl, s68, hq8, hjs, hls2⟩
    refine ⟨fun σ9 H9 => σ9 = [some (.ref px), some (.ref l), some (.ref t), some (.ref wy), some (.int (cut : Nat)), some (.ref B.a), y6, some (.ref d1), some (.ref d2), some (.ref fa), some (.ref q8), none, none, none] ∧ Same H8 H9, ?_, ?_⟩
    · have hS28 := hS26.same s68
      refine ⟨_, rfl, _, rfl, d2, kvs2, ks2.map (fun (n : Nat) => (n : Int)), rfl, .inl hS28.hd, hS28.keysI, by rw [List.length_map]; omega, fun js p hjp hjw np => ⟨p, _, rfl, .inl ⟨SqL.of upd_same, fun q2 nq2 => ?_⟩⟩⟩
      have ej := hjs js hjp hjw
      subst ej
      have s9p := same_new (o := .lst ((ls2.map (fun (n : Nat) => (n : Int))).map V.int)) np
      have s9q := same_new (o := .tup ((ls2.map (fun (n : Nat) => (n : Int))).map V.int)) nq2
      refine ⟨_, _, (tv_ints ((s9p.trans s9q).pt.sq hq8)).dp, (tv_ints (a := q2) (ls := ls2) (.inl (.inl (by rw [upd_same, natV_cast])))).dp, shaped_ints ls2, shaped_ints ls2, ?_⟩
      rw [eqv_ints, decide_eq_true rfl]
      exact ⟨_, rfl, ifBF rfl ⟨rfl, s9p.trans s9q⟩⟩
    rintro σ9 H9 ⟨rfl, s89⟩
    have s69 := s68.trans s89
    have s9 := s6.trans s69
    have hS19 := hS16.same s69
    -- note by note
    refine ⟨fun σ10 H10 => ∃ y11 y12 y13, σ10 = [some (.ref px), some (.ref l), some (.ref t), some (.ref wy), some (.int (cut : Nat)), some (.ref B.a), y6, some (.ref d1), some (.ref d2), some (.ref fa), some (.ref q8), y11, y12, y13] ∧ Same H H10, ?_, ?_⟩
    · refine ⟨_, rfl, d1, kvs1, ks1.map (fun (n : Nat) => (n : Int)), rfl, .inl hS19.hd, hS19.keysI, by rw [List.length_map]; omega, fun js p hjp hjw np => ?_⟩
      obtain ⟨ls, els, hmem⟩ := nat_ints hjp
      subst els
      have sp := same_new (o := .lst ((ls.map (fun (n : Nat) => (n : Int))).map V.int)) np
      refine ⟨p, rfl, ⟨_, SqL.of upd_same⟩, ?_⟩
      refine for_list (xs := (ls.map (fun (n : Nat) => (n : Int))).map V.int) (fun i σ' H' => ∃ y11 y12 y13, σ' = [some (.ref px), some (.ref l), some (.ref t), some (.ref wy), some (.int (cut : Nat)), some (.ref B.a), y6, some (.ref d1), some (.ref d2), some (.ref fa), some (.ref q8), y11, y12, y13] ∧ Same H9 H' ∧ H' p = some (.lst ((ls.map (fun (n : Nat) => (n : Int))).map V.int))) ⟨_, _, _, rfl, sp, upd_same⟩ ?_ ?_ ?_
      · rintro i σ' H' _ ⟨_, _, _, _, _, h⟩
        exact SqL.of h
      · rintro i x σ' H' hx ⟨y11, y12, y13, rfl, sm, hp⟩
        obtain ⟨n, hn, rfl⟩ : ∃ n, n ∈ ls ∧ x = V.int (n : Nat) := by
          rw [natV_cast] at hx
          unfold natV at hx
          rw [List.getElem?_map] at hx
          cases e : ls[i]? with
          | none => rw [e] at hx; cases hx
          | some m => rw [e] at hx; exact ⟨m, List.mem_of_getElem? e, (Option.some.inj hx).symm⟩
        have hnk : n ∈ ks1 := (hmem n).mp hn
        have hne1 := (hS19.mem n).mp hnk
        obtain ⟨y, hy⟩ := List.exists_mem_of_ne_nil _ hne1
        have hb1 := bnB_iff.mp (List.mem_filter.mp hy).2
        have hnp : n < A1.parts.length := by
          obtain ⟨j, hj, hr⟩ := hb1
          exact Nat.lt_of_le_of_lt (hr.lt wf1) (wf1.hlow _ _ hj)
        have hun1 : unA A1 n := by
          obtain ⟨j, hj, hr⟩ := hb1
          exact hr.un2
        obtain ⟨along0, along1⟩ := hld_along hrun2 wf1 hnp hun1 (fun r hr x hx => hnin x (List.mem_flatMap.mpr ⟨r, hr, hx⟩)) (bnB A1 n) hld_bnB
        have s6x := s69.trans sm
        have hAx := hA6.same s6x
        have hSx1 := hS16.same s6x
        have hSx2 := hS26.same s6x
        have sHx := s6.trans s6x
        have hqx := (s89.trans sm).pt.sq hq8
        have hgw := DGet.k (k := .inl (n : Int)) hAx.hw
        obtain ⟨la, hla1, hla2⟩ := hSx1.val n hne1
        have hgd : DGet H' d1 (.int (n : Nat)) (some (.ref la)) := by
          have := DGet.k (k := .inl (n : Int)) hSx1.hd
          rw [hla1] at this
          exact this
        have hdrop : (0 :: rest : List Nat).drop cut = ws.drop cut ++ [z0] := by
          rw [hwz, List.drop_append_of_le_length (by rw [hwl]; exact hcut)]
        obtain ⟨q0, hq0, hq0r, hw0⟩ := hway.drop (Nat.zero_le _) cut hcut
        have hq0d : (0 :: rest : List Nat).drop cut = q0 :: rest.drop cut := by
          obtain ⟨hlt, e⟩ := List.getElem?_eq_some_iff.mp hq0
          rw [List.drop_eq_getElem_cons hlt, e]
          rfl
        have hjudge : judge (leadsP b) ((ws.drop cut ++ [z0]).map fun (n : Nat) => (some (n : Int) : Option Int)) = true := by
          rw [← hdrop, hq0d]
          exact wayP_judge hw0 hq0r
        have hcutW : cutV (plV (0 :: rest)) (some ((cut : Nat) : Int)) none = plV (ws.drop cut ++ [z0]) := by
          rw [cutB (by rw [hplc, List.length_append, hplw]; omega), ← hdrop]
          unfold plV
          rw [List.map_drop]
        have hdl50 : (ws.drop cut).length ≤ 50000 := by omega
        have hdr : ∀ p ∈ ws.drop cut, p < (rowsB b).length := fun p hp => hwr p (List.mem_of_mem_drop hp)
        by_cases hw : n ∈ A2.worked
        · -- it is worked out
          have hal : alongS (rowsB b) (ws.drop cut) (some (bnB A1 n)) = none := by
            cases e : alongS (rowsB b) (ws.drop cut) (some (bnB A1 n)) with
            | none => rfl
            | some T' => exact absurd hw (along1 T' e).1
          have hnl : n ∉ ls2 := fun hm => by
            obtain ⟨y, hy⟩ := List.exists_mem_of_ne_nil _ ((hSx2.mem n).mp ((hls2 n).mp hm))
            obtain ⟨j, hj, hr⟩ := bnB_iff.mp (List.mem_filter.mp hy).2
            exact hr.un2 hw
          refine ⟨_, rfl, _, rfl, B.a, _, rfl, hAx.g3, B.wk, _, rfl, hgw, _, rfl, ?_⟩
          rw [wk_in, decide_eq_true hw]
          refine ifB rfl ?_
          refine ⟨_, rfl, _, rfl, _, rfl, _, rfl, wy, _, rfl, sHx.pt.sq hwy, fun wc Hc sc hwc => ?_⟩
          rw [hcutW] at hwc
          have hgd2 : DGet Hc d1 (.int (n : Nat)) (some (.ref la)) := by
            have := DGet.k (k := .inl (n : Int)) (sc _ _ hSx1.hd)
            rw [hla1] at this
            exact this
          refine ⟨_, rfl, _, rfl, d1, _, rfl, hgd2, px, wc, la, b, ys, bnB A1 n, ws.drop cut, z0, rfl, hP.same (sHx.trans sc), hlot, hwc, hdl50, hjudge, hdr, sc.pt.sq hla2, fun T' e => ?_, fun _ H2 s2 => ?_⟩
          · rw [hal] at e
            cases e
          · refine ⟨_, rfl, _, rfl, _, _, .non, .non, rfl, rfl, ?_⟩
            refine ⟨_, rfl, ?_⟩
            refine ifBF rfl ?_
            have hq2 := (sc.trans s2).pt.sq hqx
            refine ⟨_, rfl, _, rfl, q8, _, rfl, .inr hq2, rfl, flat_natV ls2, ?_⟩
            refine ⟨_, rfl, rfl, _, rfl, ?_⟩
            refine ifBF rfl ⟨rfl, _, rfl, ?_⟩
            have ein : (!decide (V.bl (inV (.int (n : Nat)) (natV ls2)) = V.bl false)) = false := by
              rw [show inV (.int (n : Nat)) (natV ls2) = decide (n ∈ ls2) from inV_ints n ls2, decide_eq_false hnl]
              rfl
            exact ifBF ein ⟨_, _, _, rfl, (sm.trans sc).trans s2, (sc.trans s2) _ _ hp⟩
        · -- it waits
          obtain ⟨T', hal⟩ : ∃ T', alongS (rowsB b) (ws.drop cut) (some (bnB A1 n)) = some T' := by
            cases e : alongS (rowsB b) (ws.drop cut) (some (bnB A1 n)) with
            | none => exact absurd (along0 e) hw
            | some T' => exact ⟨T', rfl⟩
          obtain ⟨hun2, hT'⟩ := along1 T' hal
          have hfil : ys.filter T' = ys.filter (bnB A2 n) := List.filter_congr fun x hx => by
            rw [Bool.eq_iff_iff]
            exact (hT' x hx).trans bnB_iff.symm
          have hshL : SeqAt.shaped (.tuple ((ys.filter (bnB A2 n)).map .str)) = true := shaped_strs fun y hy => hnok y ((hlot.me y).mp (List.mem_filter.mp hy).1)
          refine ⟨_, rfl, _, rfl, B.a, _, rfl, hAx.g3, B.wk, _, rfl, hgw, _, rfl, ?_⟩
          rw [wk_in, decide_eq_false hw]
          refine ifBF rfl ?_
          refine ⟨_, rfl, d2, rfl, .inl ⟨_, .inl hSx2.hd⟩, _, rfl, by decide, fun t0 nt0 => ?_⟩
          have s0 := same_new (o := .tup []) nt0
          have hS02 := hSx2.same s0
          have hget : ∃ a, (valV kvs2 (.inl (n : Int))).getD (.ref t0) = .ref a ∧ SqT K (upd H' t0 (.tup [])) a ((ys.filter (bnB A2 n)).map V.str) := by
            by_cases hne : ys.filter (bnB A2 n) = []
            · rw [hS02.none (n := n) hne, hne]
              exact ⟨t0, rfl, .inl (.inl upd_same)⟩
            · obtain ⟨a, e1, e2⟩ := hS02.val n hne
              rw [e1]
              exact ⟨a, rfl, e2⟩
          obtain ⟨da, ea, hda⟩ := hget
          refine ⟨_, DGet.k (k := .inl (n : Int)) hS02.hd, ?_⟩
          rw [ea]
          refine ⟨_, rfl, _, rfl, _, rfl, _, rfl, wy, _, rfl, (sHx.trans s0).pt.sq hwy, fun wc Hc sc hwc => ?_⟩
          rw [hcutW] at hwc
          have hgd2 : DGet Hc d1 (.int (n : Nat)) (some (.ref la)) := by
            have := DGet.k (k := .inl (n : Int)) (sc _ _ (s0 _ _ hSx1.hd))
            rw [hla1] at this
            exact this
          refine ⟨_, rfl, _, rfl, d1, _, rfl, hgd2, px, wc, la, b, ys, bnB A1 n, ws.drop cut, z0, rfl, hP.same ((sHx.trans s0).trans sc), hlot, hwc, hdl50, hjudge, hdr, (s0.trans sc).pt.sq hla2, fun T2 e q2 H2 s2 hq2 => ?_, fun e => ?_⟩
          · rw [hal] at e
            cases e
            rw [hfil] at hq2
            have hda2 := (sc.trans s2).pt.sq hda
            refine ⟨_, rfl, _, rfl, _, _, (tv_strs hq2).dp, (tv_strs hda2).dp, hshL, hshL, ?_⟩
            rw [eqv_strs, decide_eq_true rfl]
            refine ⟨_, rfl, ifBF rfl ?_⟩
            have hq8' := ((s0.trans sc).trans s2).pt.sq hqx
            refine ⟨_, rfl, _, rfl, q8, _, rfl, .inr hq8', rfl, flat_natV ls2, ?_⟩
            refine ⟨_, rfl, rfl, _, rfl, ?_⟩
            refine ifB (show (!decide (V.ref q2 = V.non)) = true by rw [decide_eq_false (fun z => by cases z)]; rfl) ?_
            refine ⟨_, rfl, by decide, fun t3 nt3 => ?_⟩
            have s3' := same_new (o := .tup []) nt3
            refine ⟨_, .tuple (([] : List Str).map .str), (tv_strs (s3'.pt.sq hq2)).dp, (tv_strs (a := t3) (ls := []) (.inl (.inl upd_same))).dp, hshL, rfl, ?_⟩
            rw [eqv_strs]
            refine ⟨rfl, _, rfl, ?_⟩
            have ein : (!decide (V.bl (inV (.int (n : Nat)) (natV ls2)) = V.bl (!decide (ys.filter (bnB A2 n) = [])))) = false := by
              rw [show inV (.int (n : Nat)) (natV ls2) = decide (n ∈ ls2) from inV_ints n ls2]
              have hiff : n ∈ ls2 ↔ ¬ ys.filter (bnB A2 n) = [] := (hls2 n).trans (hSx2.mem n)
              by_cases hL : ys.filter (bnB A2 n) = []
              · rw [decide_eq_true hL, decide_eq_false (fun z => hiff.mp z hL)]
                rfl
              · rw [decide_eq_false hL, decide_eq_true (hiff.mpr hL)]
                rfl
            have sL := (((sm.trans s0).trans sc).trans s2).trans s3'
            exact ifBF ein ⟨_, _, _, rfl, sL, (((s0.trans sc).trans s2).trans s3') _ _ hp⟩
          · rw [hal] at e
            cases e
      · rintro σ' H' ⟨y11, y12, y13, rfl, sm, hp⟩
        exact ⟨_, _, _, rfl, s9.trans sm⟩
    rintro σ10 H10 ⟨y11, y12, y13, rfl, s10⟩
    exact k H10 s10
end
end K24
set_option Elab.async false
set_option linter.all false
set_option maxRecDepth 100000
set_option maxHeartbeats 4000000
/-! The law. -/
namespace PM
open PySem PySem.Spec PyProof.Rows L2 ZX ZR
/-- the empty lot stays empty -/
theorem move_empty {r : Rw} {S : Str → Bool} (h : ∀ x, S x = false) : ∃ S', moveS r S = some S' ∧ ∀ x, S' x = false := by
  have put : ∀ x, ∀ y, putS S x false y = false := fun x y => by
    by_cases e : y = x
    · rw [e, putS_at]
    · rw [putS_of e, h]
  cases r with
  | note x o ps =>
    refine ⟨_, rfl, ?_⟩
    rw [show ps.any S = false from List.any_eq_false.mpr fun y _ => by rw [h]; exact Bool.false_ne_true]
    exact put x
  | copy x y =>
    refine ⟨_, rfl, ?_⟩
    rw [h y]
    exact put x
  | give x i => exact ⟨_, rfl, put x⟩
  | ask x =>
    refine ⟨S, ?_, h⟩
    show (if S x = true then none else some S) = some S
    rw [if_neg (by rw [h]; exact Bool.false_ne_true)]
  | prt x =>
    refine ⟨S, ?_, h⟩
    show (if S x = true then none else some S) = some S
    rw [if_neg (by rw [h]; exact Bool.false_ne_true)]
  | either a b => exact ⟨S, rfl, h⟩
  | again a => exact ⟨S, rfl, h⟩
theorem filter_none {ys : List Str} {S : Str → Bool} (h : ∀ x, S x = false) : ys.filter S = [] := List.filter_eq_nil_iff.mpr fun x _ => by
  rw [h]
  exact Bool.false_ne_true
end PM
namespace K24
open PySem PySem.Spec PyProof.Rows L2 ZX PM ZR
theorem along_empty {rows : List Rw} : ∀ (ps : List Nat) {S : Str → Bool}, (∀ p ∈ ps, p < rows.length) → (∀ x, S x = false) → ∃ S', alongS rows ps (some S) = some S' ∧ ∀ x, S' x = false
  | [], S, _, h => ⟨S, rfl, h⟩
  | p :: ps, S, hp, h => by
    obtain ⟨S1, e1, h1⟩ := move_empty (r := rows[p]'(hp p List.mem_cons_self)) h
    obtain ⟨S2, e2, h2⟩ := along_empty ps (fun q hq => hp q (List.mem_cons_of_mem _ hq)) h1
    refine ⟨S2, ?_, h2⟩
    show alongS rows ps ((some S).bind fun S => (rows[p]?).bind fun r => moveS r S) = some S2
    rw [List.getElem?_eq_getElem (hp p List.mem_cons_self)]
    show alongS rows ps (moveS _ S) = some S2
    rw [e1]
    exact e2
abbrev sLaw : Stmt := top 80
def spLaw (K : PySem.W.Frag) : Sp := fun vs H Q _ => ∃ (a : Addr) (ns : List Int), vs = [.ref a] ∧ SqL K H a (ns.map V.int) ∧ ns.length ≤ 63 ∧ ∀ H', Q (.bl true) H'
/-- what the law calls -/
structure Ctx (P : Program) (w : World) (K : PySem.W.Frag) (mg : Str → Option Value) (base : Heap) (C : Addr) : Prop where
  bi : Bi mg
  g : mg "Program" = some (.ref C)
  hand : Cal P w K mg base "_law_hand" 1 ["_law_script"] (spHand K)
  draw : Cal P w K mg base "_law_draw" 1 ["_law_hand_here", "_law_many"] spDraw
  wide : Cal P w K mg base "_law_wide" 6 ["_law_hand_here"] (spLWide K)
  table : Cal P w K mg base "_law_table" 10 ["_law_block"] (spLTable K)
  names : Cal P w K mg base "_law_names" 1 ["_law_table_here"] (spLNames K)
  bits : Cal P w K mg base "_law_bits" 1 ["_law_names_here"] spLBits
  lot : Cal P w K mg base "_law_lot" 1 ["_law_names_here", "_law_mask"] (spLLot K)
  led : Cal P w K mg base "_law_led" 3 ["_law_hand_here", "_law_table_here", "_law_place", "_law_many"] (spLLed K)
  along : Cal P w K mg base "_law_along" 2 ["_law_table_here", "_law_bits_here", "_law_way", "_law_mask"] (spLAlong K)
  foll : Cal P w K mg base "_law_is_followed" 30 ["_law_program", "_law_table_here", "_law_names_here", "_law_way", "_law_cut"] (spLFoll K C)
  holders : CalX P w K mg base "holders" 4 ["program", "way", "lot"] (spHolders K C)
  make : ∃ fI fd, Mk K C fI ∧ FnOk P w K mg base CX0 16 fI fd ["self", "block"] (spInit K C) ∧ Binds K fd ["self", "block"] []
/-- what stands in a turn -/
structure Tn (K : PySem.W.Frag) (C : Addr) (h c x l t d : Addr) (us : List V) (b : List Rw) (ys : List Str) (H : Hp) : Prop where
  hh : HandAt H h c
  hp : PrAt K C H x b
  hpd : PrD C H x
  hl : H l = some (.lst us)
  hu : Tvs K H us ((tabB b).map dE)
  hG : Good b
  hlot : IsLot ys ((rowsB b).flatMap namesR)
  ht : H t = some (.lst (ys.map V.str))
  hb : Bits H d ys
  nx : x ≠ h
  nl : l ≠ h
  nt : t ≠ h
  nd : d ≠ h
theorem _root_.PM.PrD.kp {C : Addr} {H H' : Hp} {x h c : Addr} (d : PrD C H x) (hh : HandAt H h c) (k : Kp h H H') : PrD C H' x := by
  obtain ⟨cs, i, g, kk, d0, hd⟩ := hh
  have ne : ∀ {b : Addr} {u : HO}, H b = some u → (∀ kvs, u ≠ .dK kvs) → b ≠ h := fun e n z => by
    rw [z, hd.hp] at e
    cases e
    exact n _ rfl
  obtain ⟨dx, v, ra, na, la, ls, h1, h2, h3⟩ := d
  exact ⟨dx, v, ra, na, la, ls, k _ _ (ne h1 fun _ z => by cases z) h1, k _ _ (ne h2 fun _ z => by cases z) h2, fun u hu => (h3 u hu).keep fun a o xs e => k _ _ (ne e fun _ z => by cases z) e⟩
theorem Tn.mv {K : PySem.W.Frag} {C h c x l t d : Addr} {us : List V} {b : List Rw} {ys : List Str} {H H' : Hp} (B : Tn K C h c x l t d us b ys H) (hh : HandAt H' h c) (k : Kp h H H') : Tn K C h c x l t d us b ys H' :=
  ⟨hh, B.hp.up (fun o e => k _ _ B.nx e) (B.hh.pt k), B.hpd.kp B.hh k, k _ _ B.nl B.hl, B.hu.pt (B.hh.pt k), B.hG, B.hlot, k _ _ B.nt B.ht, B.hb.kp B.nd k, B.nx, B.nl, B.nt, B.nd⟩
theorem Tn.same {K : PySem.W.Frag} {C h c x l t d : Addr} {us : List V} {b : List Rw} {ys : List Str} {H H' : Hp} (B : Tn K C h c x l t d us b ys H) (s : Same H H') : Tn K C h c x l t d us b ys H' := B.mv (B.hh.kp s) s.kp
section
variable {P : Program} {w : World} {K : PySem.W.Frag} {mg : Str → Option Value} {base : Heap}
abbrev NLw : List Str := ["_law_script", "_law_hand_here", "_law_turn", "_law_block", "_law_program", "_law_table_here", "_law_names_here", "_law_bits_here", "_law_way", "_law_again", "_law_other", "_law_mask", "_law_due", "_law_lot_here"]
theorem scLaw : FnScope NLw ["_law_script"] (defScope sLaw) := ⟨rfl, rfl, rfl, by decide +kernel, rfl, by decide +kernel, by decide +kernel⟩
theorem ok_law {C f : Addr} {fd : FuncData} (F : FnP K "law" sLaw f fd) (T : Ctx P w K mg base C) : FnOk P w K mg base CX0 31 f fd ["_law_script"] (spLaw K) := by
  refine F.ok scLaw (fun vs H Q E h => ?_) (fun cdv A outer s H vs Q E hr h => ?_)
  · obtain ⟨a, ns, rfl, _⟩ := h
    rfl
  · obtain ⟨a, ns, rfl, hS, hns, k⟩ := h
    obtain ⟨fI, fdI, M, GI, bI⟩ := T.make
    have hr1 := hr.mono (show 1 ≤ 30 by decide)
    have hr2 := hr.mono (show 2 ≤ 30 by decide)
    have hr3 := hr.mono (show 3 ≤ 30 by decide)
    have hr4 := hr.mono (show 4 ≤ 30 by decide)
    have hr6 := hr.mono (show 6 ≤ 30 by decide)
    have hr10 := hr.mono (show 10 ≤ 30 by decide)
    have hr17 := hr.mono (show 17 ≤ 30 by decide)
    have D : Cal P w K mg base "_law_draw" 1 ["_law_hand_here", "_law_many"] spDraw := T.draw
    refine ⟨_, PSs.nox (pss_cons (ps_set (i := 1) scLaw.nd rfl (Or.inl rfl) (pcal T.hand hr1 rfl (pa_cons (pv 0) pa_nil)))
    (pss_cons (ps_for PassesOwn.never rfl (pi_range1 rfl T.bi.b_range (pa_cons pe_int pa_nil)) (pg_name (i := 2) scLaw.nd rfl (Or.inl rfl)) (pss_cut (ps_set (i := 3) scLaw.nd rfl (Or.inl rfl) (pcal T.wide hr6 rfl (pa_cons (pv 1) pa_nil)))
      (pss_cut (ps_par rfl scLaw.nd (i := 4) (j := 5) rfl rfl (by decide) rfl rfl (pa_cons (pe_make M GI hr17 rfl T.g bI .nil pass0 (pa_cons (pv 3) pa_nil)) (pa_cons (pcal T.table hr10 rfl (pa_cons (pv 3) pa_nil)) pa_nil)) (by rfl))
      (pss_cut (ps_set (i := 6) scLaw.nd rfl (Or.inl rfl) (pcal T.names hr1 rfl (pa_cons (pv 5) pa_nil)))
      (pss_cut (ps_set (i := 7) scLaw.nd rfl (Or.inl rfl) (pcal T.bits hr1 rfl (pa_cons (pv 6) pa_nil)))
      (pss_cut (ps_set (i := 8) scLaw.nd rfl (Or.inl rfl) (pcal T.led hr3 rfl (pa_cons (pv 1) (pa_cons (pv 5) (pa_cons pe_int (pa_cons (pcal D hr1 rfl (pa_cons (pv 1) (pa_cons pe_int pa_nil))) pa_nil))))))
      (pss_cut (ps_for PassesOwn.never rfl (pi_range1 rfl T.bi.b_range (pa_cons pe_int pa_nil)) (pg_name (i := 9) scLaw.nd rfl (Or.inl rfl)) (pss_cut (ps_if (pt_not (pt_val (pcal T.foll hr rfl (pa_cons (pv 4) (pa_cons (pv 5) (pa_cons (pv 6) (pa_cons (pv 8) (pa_cons (pcal D hr1 rfl (pa_cons (pv 1) (pa_cons (pe_callB call_len_seq (by rfl) T.bi.b_len (by decide +kernel) (pa_cons (pv 8) pa_nil)) pa_nil))) pa_nil)))))))) (pss_one (ps_ret pe_bl)) pss_nil)
        (pss_cut (ps_set (i := 10) scLaw.nd rfl (Or.inl rfl) (pcal T.led hr3 rfl (pa_cons (pv 1) (pa_cons (pv 5) (pa_cons (pcal D hr1 rfl (pa_cons (pv 1) (pa_cons (pe_op op_add (pe_callB call_len_seq (by rfl) T.bi.b_len (by decide +kernel) (pa_cons (pv 5) pa_nil)) pe_int) pa_nil))) (pa_cons (pcal D hr1 rfl (pa_cons (pv 1) (pa_cons pe_int pa_nil))) pa_nil))))))
        (pss_cut (ps_set (i := 11) scLaw.nd rfl (Or.inl rfl) (pcal D hr1 rfl (pa_cons (pv 1) (pa_cons (pe_op op_oneShl pe_int (pe_callB call_len_seq (by rfl) T.bi.b_len (by decide +kernel) (pa_cons (pv 6) pa_nil))) pa_nil))))
        (pss_cut (ps_set (i := 12) scLaw.nd rfl (Or.inl rfl) (pcal T.along hr2 rfl (pa_cons (pv 5) (pa_cons (pv 7) (pa_cons (pv 10) (pa_cons (pv 11) pa_nil))))))
        (pss_cut (ps_set (i := 13) scLaw.nd rfl (Or.inl rfl) (pcalN T.holders hr4 rfl (pa_cons (pv 4) (pa_cons (pv 10) (pa_cons (pcal T.lot hr1 rfl (pa_cons (pv 6) (pa_cons (pv 11) pa_nil))) pa_nil)))))
        (pss_one (ps_if (pt_cmpR (op_neD hr.units) (pv 13) (pe_ifExp (pt_cmpR op_lt (pv 12) pe_int (nomark _)) pe_non (pcal T.lot hr1 rfl (pa_cons (pv 6) (pa_cons (pv 12) pa_nil)))) (nomark _)) (pss_one (ps_ret pe_bl)) pss_nil))))))))
      (pss_one (ps_if (pt_cmpR (op_neD hr.units) (pcalN T.holders hr4 rfl (pa_cons (pv 4) (pa_cons (pv 8) (pa_cons (pe_tup pa_nil) pa_nil)))) (pe_tup pa_nil) (nomark _)) (pss_one (ps_ret pe_bl)) pss_nil)))))))))
    (pss_one (ps_ret pe_bl)))), ?_⟩
    refine ⟨_, rfl, a, ns, rfl, hS, hns, fun p c H1 hh1 s1 np => ?_⟩
    refine ⟨_, rfl, by decide, by decide, ?_⟩
    refine for_range (fun _ σ' H' => ∃ y2 y3 y4 y5 y6 y7 y8 y9 y10 y11 y12 y13, σ' = [some (V.ref a), some (.ref p), y2, y3, y4, y5, y6, y7, y8, y9, y10, y11, y12, y13] ∧ HandAt H' p c) ⟨_, _, _, _, _, _, _, _, _, _, _, _, rfl, hh1⟩ ?_ (fun σ' H' h => ?_)
    · rintro i0 σ2 H2 hi0 ⟨y2, y3, y4, y5, y6, y7, y8, y9, y10, y11, y12, y13, rfl, hh2⟩
      refine ⟨fun σ' H' => ∃ v b, σ' = [some (V.ref a), some (.ref p), some (.int (0 + (i0 : Nat))), some v, y4, y5, y6, y7, y8, y9, y10, y11, y12, y13] ∧ HandAt H' p c ∧ BV K H' v b ∧ Good b, ?_, ?_⟩
      · exact ⟨_, rfl, p, c, rfl, hh2, fun v b H4 hh4 k4 tv G ne => ⟨v, b, rfl, hh4, tv, G⟩⟩
      rintro σ3 H3 ⟨v, b, rfl, hh3, tv3, G⟩
      refine ⟨fun σ' H' => ∃ x l us, σ' = [some (V.ref a), some (.ref p), some (.int (0 + (i0 : Nat))), some v, some (.ref x), some (.ref l), y6, y7, y8, y9, y10, y11, y12, y13] ∧ HandAt H' p c ∧ PrAt K C H' x b ∧ PrD C H' x ∧ H' l = some (.lst us) ∧ Tvs K H' us ((tabB b).map dE) ∧ x ≠ p ∧ l ≠ p, ?_, ?_⟩
      · refine ⟨_, rfl, fun x dx nx ndx nxd => ⟨x, dx, v, b, rfl, upd_same, tv3.pt ((Pt.new ndx).trans (Pt.new (by rw [upd_ne nxd.symm]; exact nx))), G, fun H4 k4 p4 pr4 pd4 => ⟨rfl, ?_⟩⟩⟩
        have s4 : Same H3 H4 := fun z o e => by
          refine k4 _ _ (ne_of_none e nx) ?_
          rw [upd_ne (ne_of_none e nx), upd_ne (ne_of_none e ndx)]
          exact e
        exact ⟨_, rfl, v, b, rfl, tv3.pt s4.pt, G, fun l us H5 s5 nl hl hut => ⟨_, _, rfl, x, l, us, rfl, (hh3.kp s4).kp s5, pr4.same s5, pd4.same s5, hl, hut, hh3.nep nx, (hh3.kp s4).nep nl⟩⟩
      rintro σ4 H4 ⟨x, l, us, rfl, hh4, pr4, pd4, hl4, hu4, nx4, nl4⟩
      refine ⟨fun σ' H' => ∃ t ys, σ' = [some (V.ref a), some (.ref p), some (.int (0 + (i0 : Nat))), some v, some (.ref x), some (.ref l), some (.ref t), y7, y8, y9, y10, y11, y12, y13] ∧ Same H4 H' ∧ IsLot ys ((rowsB b).flatMap namesR) ∧ H' t = some (.lst (ys.map V.str)) ∧ t ≠ p, ?_, ?_⟩
      · exact ⟨_, rfl, l, us, b, rfl, hl4, hu4, G, fun t ys H6 s7 nt hlot ht => ⟨t, ys, rfl, s7, hlot, ht, hh4.nep nt⟩⟩
      rintro σ5 H5 ⟨t, ys, rfl, s5, hlot, ht5, nt5⟩
      have l8 : ys.length ≤ 8 := G.n8 ys hlot
      refine ⟨fun σ' H' => ∃ d, σ' = [some (V.ref a), some (.ref p), some (.int (0 + (i0 : Nat))), some v, some (.ref x), some (.ref l), some (.ref t), some (.ref d), y8, y9, y10, y11, y12, y13] ∧ Tn K C p c x l t d us b ys H', ?_, ?_⟩
      · refine ⟨_, rfl, t, ys, rfl, ht5, hlot.nd, l8, fun d H6 s6 nd hb => ⟨d, rfl, ?_⟩⟩
        have s56 := s5.trans s6
        exact ⟨hh4.kp s56, pr4.same s56, pd4.same s56, s56 _ _ hl4, hu4.pt s56.pt, G, hlot, s6 _ _ ht5, hb, nx4, nl4, nt5, (hh4.kp s5).nep nd⟩
      clear hh4 pr4 pd4 hl4 hu4 s5 ht5
      rintro σ6 H6 ⟨d, rfl, B6⟩
      have hul : us.length = (rowsB b).length := by rw [B6.hu.len, List.length_map, tab_len]
      have l30 := G.l30
      have hnin : ∀ x ∈ (rowsB b).flatMap namesR, x ∈ ys := fun x hx => (hlot.me x).mpr hx
      -- the way
      refine ⟨fun σ' H' => ∃ wy rest, σ' = [some (V.ref a), some (.ref p), some (.int (0 + (i0 : Nat))), some v, some (.ref x), some (.ref l), some (.ref t), some (.ref d), some (.ref wy), y9, y10, y11, y12, y13] ∧ Tn K C p c x l t d us b ys H' ∧ SqT K H' wy (plV (0 :: rest)) ∧ WayP b 0 rest ∧ rest.length ≤ 40, ?_, ?_⟩
      · refine ⟨_, rfl, _, rfl, _, rfl, p, c, 41, rfl, B6.hh, by decide, by decide, fun m H7 h0 h1 hh7 ch7 => ?_⟩
        have B7 := B6.mv hh7 ch7.kp
        refine ⟨p, c, l, 0, m.toNat, us, b, by rw [Int.toNat_of_nonneg h0]; rfl, by omega, hh7, B7.hl, B7.hu, G, Nat.zero_le _, B7.nl, fun wy rest H8 hh8 k8 hw hle hway => ⟨wy, rest, rfl, B7.mv hh8 k8, hw, hway, by omega⟩⟩
      rintro σ7 H7 ⟨wy, rest, rfl, B7, hwy7, hway, h40⟩
      have hplw : ∀ (L : List Nat), (plV L).length = L.length := fun L => by
        unfold plV
        rw [List.length_map]
      -- what a way may be told of
      have wayS : ∀ {q : Nat} {rest : List Nat}, WayP b q rest → q ≤ (rowsB b).length → ∃ ws z, (q :: rest : List Nat) = ws ++ [z] ∧ ws.length = rest.length ∧ judge (leadsP b) ((ws ++ [z]).map fun (n : Nat) => (some (n : Int) : Option Int)) = true ∧ ∀ p ∈ ws, p < (rowsB b).length := fun {q rest} hw hq => by
        obtain ⟨ws, z, e⟩ : ∃ ws z, (q :: rest : List Nat) = ws ++ [z] := (snoc_or (q :: rest)).resolve_left fun z => nomatch z
        refine ⟨ws, z, e, ?_, by rw [← e]; exact wayP_judge hw hq, fun p hp => ?_⟩
        · have := congrArg List.length e
          rw [List.length_append] at this
          exact (Nat.succ.inj this).symm
        · have := hw.rows p
          rw [e, List.dropLast_concat] at this
          exact this hp
      refine ⟨fun σ' H' => ∃ y9 y10 y11 y12 y13, σ' = [some (V.ref a), some (.ref p), some (.int (0 + (i0 : Nat))), some v, some (.ref x), some (.ref l), some (.ref t), some (.ref d), some (.ref wy), y9, y10, y11, y12, y13] ∧ Tn K C p c x l t d us b ys H' ∧ SqT K H' wy (plV (0 :: rest)), ?_, ?_⟩
      · refine ⟨_, rfl, by decide, by decide, ?_⟩
        refine for_range (fun _ σ' H' => ∃ y9 y10 y11 y12 y13, σ' = [some (V.ref a), some (.ref p), some (.int (0 + (i0 : Nat))), some v, some (.ref x), some (.ref l), some (.ref t), some (.ref d), some (.ref wy), y9, y10, y11, y12, y13] ∧ Tn K C p c x l t d us b ys H' ∧ SqT K H' wy (plV (0 :: rest))) ⟨_, _, _, _, _, rfl, B7, hwy7⟩ ?_ (fun σ' H' h => h)
        rintro i1 σ8 H8 hi1 ⟨y9, y10, y11, y12, y13, rfl, B8, hwy8⟩
        -- followed
        refine ⟨fun σ' H' => σ' = [some (V.ref a), some (.ref p), some (.int (0 + (i0 : Nat))), some v, some (.ref x), some (.ref l), some (.ref t), some (.ref d), some (.ref wy), some (.int (0 + (i1 : Nat))), y10, y11, y12, y13] ∧ Tn K C p c x l t d us b ys H' ∧ SqT K H' wy (plV (0 :: rest)), ?_, ?_⟩
        · refine ⟨_, rfl, _, rfl, _, rfl, _, rfl, _, rfl, _, rfl, wy, _, rfl, .inr hwy8, p, c, _, rfl, B8.hh, by rw [hplw]; show (0 : Int) < ((rest.length + 1 : Nat) : Int); omega, by rw [hplw]; show ((rest.length + 1 : Nat) : Int) < _; omega, fun m H9 h0 h1 hh9 ch9 => ?_⟩
          have B9 := B8.mv hh9 ch9.kp
          have hwy9 := (B8.hh.pt ch9.kp).sq hwy8
          have h1' : m < ((rest.length + 1 : Nat) : Int) := by
            rw [hplw] at h1
            exact h1
          refine ⟨x, l, t, wy, m.toNat, us, b, ys, rest, by rw [Int.toNat_of_nonneg h0] <;> rfl, B9.hp, B9.hpd, B9.hl, B9.hu, G, hlot, B9.ht, hwy9, hway, by omega, by omega, fun H10 s10 => ⟨_, rfl, ?_⟩⟩
          exact ⟨rfl, B9.same s10, s10.pt.sq hwy9⟩
        rintro σ9 H9 ⟨rfl, B9, hwy9⟩
        -- another way
        refine ⟨fun σ' H' => ∃ ow q orest, σ' = [some (V.ref a), some (.ref p), some (.int (0 + (i0 : Nat))), some v, some (.ref x), some (.ref l), some (.ref t), some (.ref d), some (.ref wy), some (.int (0 + (i1 : Nat))), some (.ref ow), y11, y12, y13] ∧ Tn K C p c x l t d us b ys H' ∧ SqT K H' wy (plV (0 :: rest)) ∧ SqT K H' ow (plV (q :: orest)) ∧ WayP b q orest ∧ q ≤ (rowsB b).length ∧ orest.length ≤ 20, ?_, ?_⟩
        · refine ⟨_, rfl, _, rfl, _, rfl, _, rfl, l, _, rfl, .inl (SqL.of B9.hl), _, _, rfl, rfl, p, c, _, rfl, B9.hh, by omega, by omega, fun q H10 q0 q1 hh10 ch10 => ?_⟩
          have B10 := B9.mv hh10 ch10.kp
          refine ⟨_, rfl, p, c, 20, rfl, hh10, by decide, by decide, fun m H11 m0 m1 hh11 ch11 => ?_⟩
          have B11 := B10.mv hh11 ch11.kp
          have hwy11 := (B9.hh.pt (ch10.kp.trans ch11.kp)).sq hwy9
          refine ⟨p, c, l, q.toNat, m.toNat, us, b, by rw [Int.toNat_of_nonneg q0, Int.toNat_of_nonneg m0] <;> rfl, by omega, hh11, B11.hl, B11.hu, G, by omega, B11.nl, fun ow orest H12 hh12 k12 hw hle how => ⟨ow, q.toNat, orest, rfl, B11.mv hh12 k12, (B11.hh.pt k12).sq hwy11, hw, how, by omega, by omega⟩⟩
        rintro σ10 H10 ⟨ow, q, orest, rfl, B10, hwy10, how10, how, hq, h20⟩
        obtain ⟨ws, z, ewz, hwl, hj, hwr⟩ := wayS how hq
        rw [ewz] at how10
        -- a lot
        refine ⟨fun σ' H' => ∃ S : Str → Bool, σ' = [some (V.ref a), some (.ref p), some (.int (0 + (i0 : Nat))), some v, some (.ref x), some (.ref l), some (.ref t), some (.ref d), some (.ref wy), some (.int (0 + (i1 : Nat))), some (.ref ow), some (.int (maskS ys S : Nat)), y12, y13] ∧ Tn K C p c x l t d us b ys H' ∧ SqT K H' wy (plV (0 :: rest)) ∧ SqT K H' ow (plV (ws ++ [z])), ?_, ?_⟩
        · have e : ((2 : Int) ^ ys.length) = ((2 ^ ys.length : Nat) : Int) := by rw [Int.natCast_pow]; rfl
          refine ⟨_, rfl, _, rfl, t, _, rfl, .inl (SqL.of B10.ht), ys.length, rfl, by rw [List.length_map], by omega, p, c, 2 ^ ys.length, rfl, B10.hh, ?_, ?_, fun m H11 m0 m1 hh11 ch11 => ?_⟩
          · have := Nat.two_pow_pos ys.length
            rw [e]
            omega
          · have h2 : 2 ^ ys.length ≤ 2 ^ 8 := Nat.pow_le_pow_right (by decide) l8
            rw [e]
            omega
          · have hm : m.toNat < 2 ^ ys.length := by
              rw [e] at m1
              omega
            obtain ⟨S, hS⟩ := maskS_of ys hlot.nd m.toNat hm
            have pt := B10.hh.pt ch11.kp
            exact ⟨S, by rw [← hS, Int.toNat_of_nonneg m0]; rfl, B10.mv hh11 ch11.kp, pt.sq hwy10, pt.sq how10⟩
        rintro σ11 H11 ⟨S, rfl, B11, hwy11, how11⟩
        refine ⟨fun σ' H' => σ' = [some (V.ref a), some (.ref p), some (.int (0 + (i0 : Nat))), some v, some (.ref x), some (.ref l), some (.ref t), some (.ref d), some (.ref wy), some (.int (0 + (i1 : Nat))), some (.ref ow), some (.int (maskS ys S : Nat)), some (.int (mOf ys (alongS (rowsB b) ws (some S)))), y13] ∧ Same H11 H', ?_, ?_⟩
        · exact ⟨_, rfl, _, rfl, _, rfl, _, rfl, l, d, ow, us, b, ys, ws, z, some S, rfl, B11.hl, B11.hu, B11.hb, how11, hwr, hnin, G, fun H12 s12 => ⟨rfl, s12⟩⟩
        rintro σ12 H12 ⟨rfl, s12⟩
        have B12 := B11.same s12
        have how12 := s12.pt.sq how11
        have hshL : ∀ T : Str → Bool, SeqAt.shaped (.tuple ((ys.filter T).map .str)) = true := fun T => shaped_strs fun y hy => nm_lot G.ok hlot y (List.mem_filter.mp hy).1
        refine ⟨fun σ' H' => ∃ lv, σ' = [some (V.ref a), some (.ref p), some (.int (0 + (i0 : Nat))), some v, some (.ref x), some (.ref l), some (.ref t), some (.ref d), some (.ref wy), some (.int (0 + (i1 : Nat))), some (.ref ow), some (.int (maskS ys S : Nat)), some (.int (mOf ys (alongS (rowsB b) ws (some S)))), some lv] ∧ Same H12 H' ∧ ((alongS (rowsB b) ws (some S) = none ∧ lv = .non) ∨ ∃ S' q2, alongS (rowsB b) ws (some S) = some S' ∧ lv = .ref q2 ∧ SqT K H' q2 ((ys.filter S').map V.str)), ?_, ?_⟩
        · refine ⟨_, rfl, _, rfl, _, rfl, _, rfl, t, ys, S, rfl, B12.ht, l8, fun la H13 s13 hla => ?_⟩
          refine ⟨x, ow, la, b, ys, S, ws, z, rfl, B12.hp.same s13, hlot, s13.pt.sq how12, by omega, hj, hwr, hla, fun S' e q2 H14 s14 hq2 => ⟨_, rfl, s13.trans s14, .inr ⟨S', q2, e, rfl, hq2⟩⟩, fun e H14 s14 => ⟨_, rfl, s13.trans s14, .inl ⟨e, rfl⟩⟩⟩
        rintro σ13 H13 ⟨lv, rfl, s13, hlv⟩
        have s11 := s12.trans s13
        rcases hlv with ⟨e, rfl⟩ | ⟨S', q2, e, rfl, hq2⟩
        · rw [e]
          refine ⟨_, rfl, _, rfl, _, _, rfl, rfl, _, rfl, ?_⟩
          refine ifD (show (-1 : Int) < 0 by decide) ⟨_, _, .non, .non, rfl, rfl, _, rfl, ifBF rfl ?_⟩
          exact ⟨_, _, _, _, _, rfl, B11.same s11, s11.pt.sq hwy11⟩
        · rw [e]
          refine ⟨_, rfl, _, rfl, _, _, rfl, rfl, _, rfl, ?_⟩
          refine ifDF (show ¬ ((maskS ys S' : Nat) : Int) < 0 by omega) ?_
          refine ⟨_, rfl, _, rfl, t, ys, S', rfl, s13 _ _ B12.ht, l8, fun la H14 s14 hla => ?_⟩
          refine ⟨_, _, (tv_strs (s14.pt.sq hq2)).dp, (tv_strs hla).dp, hshL S', hshL S', ?_⟩
          rw [eqv_strs, decide_eq_true rfl]
          exact ⟨_, rfl, ifBF rfl ⟨_, _, _, _, _, rfl, B11.same (s11.trans s14), (s11.trans s14).pt.sq hwy11⟩⟩
      rintro σ8 H8 ⟨y9, y10, y11, y12, y13, rfl, B8, hwy8⟩
      obtain ⟨ws, z, ewz, hwl, hj, hwr⟩ := wayS hway (Nat.zero_le _)
      rw [ewz] at hwy8
      obtain ⟨S', e', h'⟩ := along_empty (rows := rowsB b) ws (S := fun _ => false) hwr (fun _ => rfl)
      refine ⟨_, rfl, _, rfl, by decide, fun la nla => ?_⟩
      have sl := same_new (o := .tup []) nla
      refine ⟨x, wy, la, b, ys, fun _ => false, ws, z, rfl, B8.hp.same sl, hlot, sl.pt.sq hwy8, by omega, hj, hwr, .inl (.inl (by rw [upd_same, filter_none fun _ => rfl]; rfl)), fun S2 e2 q2 H9 s9 hq2 => ?_, fun e2 => ?_⟩
      · rw [e'] at e2
        cases e2
        rw [filter_none h'] at hq2
        refine ⟨by decide, fun lb nlb => ?_⟩
        have sb := same_new (o := .tup []) nlb
        refine ⟨_, _, (tv_strs (ls := []) (sb.pt.sq hq2)).dp, (tv_strs (a := lb) (ls := []) (.inl (.inl upd_same))).dp, rfl, rfl, ?_⟩
        rw [eqv_strs, decide_eq_true rfl]
        exact ⟨_, rfl, ifBF rfl ⟨_, _, _, _, _, _, _, _, _, _, _, _, rfl, ((B8.hh.kp sl).kp s9).kp sb⟩⟩
      · rw [e'] at e2
        cases e2
    · obtain ⟨_, _, _, _, _, _, _, _, _, _, _, _, rfl, _⟩ := h
      exact k H'
end
end K24
set_option Elab.async false
set_option linter.all false
set_option maxRecDepth 100000
set_option maxHeartbeats 4000000
namespace ZX
open PySem PySem.Spec PyProof.Rows L2
/-! ### a Hook: facts, defs, and one Bool more -/
structure SaysB (fa : List He.Fa) (fn : List He.DefD) (ex : PySem.W.Frag → Bool) (K : PySem.W.Frag) : Prop where
  d : He.SaysD fa fn K
  more : ex K = true
abbrev AlB : Type := He.AlD × Bool
def obsB (fa : List He.Fa) (fn : List He.DefD) (ex : PySem.W.Frag → Bool) (K : PySem.W.Frag) : AlB := (He.obsD fa fn K, ex K)
def obsBG (n : Nat) (fa : List He.Fa) (fn : List He.DefD) (ex : PySem.W.Frag → Bool) (g : Addr → Option Obj) : AlB := obsB fa fn ex (He.frG g (He.asD g n))
def valB (fn : List He.DefD) : AlB := (He.valD fn, true)
def hookB (n : Nat) (fa : List He.Fa) (fn : List He.DefD) (ex : PySem.W.Frag → Bool) : PySem.W.Hook where
  α := AlB
  obs := fun s => obsBG n fa fn ex s.heap.get?
  val := fun _ => valB fn
  says := fun _ h => ∃ K : PySem.W.Frag, K.In h ∧ SaysB fa fn ex K
  of := fun _ _ e => ⟨_, He.frG_in, congrArg (fun z : AlB => z.1) e, congrArg (fun z : AlB => z.2) e⟩
  keeps := fun _ _ _ ⟨K, hK, c⟩ k => ⟨K, PySem.W.Frag.In.keeps hK k, c⟩
theorem obsBG_eq {n : Nat} {fa : List He.Fa} {fn : List He.DefD} {ex : PySem.W.Frag → Bool} {g : Addr → Option Obj} {s : Shared} (h : ∀ a, g a = s.heap.get? a) : obsBG n fa fn ex g = (hookB n fa fn ex).obs s := by
  have e : g = s.heap.get? := funext h
  rw [e] <;> rfl
/-! ### own exception classes over one own class over ValueError -/
/-- the class x has the chain x, base, ValueError .. and its own dict -/
def clsB (K : PySem.W.Frag) (base x : Str) : Bool := match K.lookup (He.ga K x) with
  | some ⟨.type "type", _, .cls cd, sl⟩ => (match sl.toList with
    | [_, _, _, _, some (.builtin n), _] => decide (cd.mro = [.ref (He.ga K x), .ref (He.ga K base), .type "ValueError", .type "Exception", .type "BaseException", .type "object"]) && (n == "ValueError.__new__" && (!cd.hasDel && cd.hasDict))
    | _ => false)
  | _ => false
theorem clsB_ok {K : PySem.W.Frag} {base x : Str} (h : clsB K base x = true) : ∃ nm q N bs sn sub ab col dd k0 k1 k2 k3 k5,
    K.lookup (He.ga K x) = some (excClassObj nm q (He.ga K x) N bs [.ref (He.ga K base), .type "ValueError", .type "Exception", .type "BaseException", .type "object"] true sn sub ab col dd k0 k1 k2 k3 k5 "ValueError.__new__") := by
  unfold clsB at h
  split at h
  · rename_i dd cd sl ho
    split at h
    · rename_i k0 k1 k2 k3 n k5 hs
      obtain ⟨h1, h⟩ := Bool.and_eq_true_iff.mp h
      obtain ⟨h2, h⟩ := Bool.and_eq_true_iff.mp h
      obtain ⟨h3, h4⟩ := Bool.and_eq_true_iff.mp h
      have hm := of_decide_eq_true h1
      have hn := eq_of_beq h2
      obtain ⟨nm, bs, mro, ns, qn, hd, sn, sb, ab, col, del⟩ := cd
      dsimp only at hm h3 h4
      subst hm hn h4
      have hdel : del = false := by
        cases del with
        | false => rfl
        | true => cases h3
      subst hdel
      have hsl : sl = #[k0, k1, k2, k3, some (.builtin "ValueError.__new__"), k5] := by
        obtain ⟨l⟩ := sl
        simp only at hs
        rw [hs]
      subst hsl
      exact ⟨nm, qn, ns, bs, sn, sb, ab, col, dd, k0, k1, k2, k3, k5, ho⟩
    · cases h
  · cases h
def opB (a b : Option (Option Value)) : Bool := decide (a = b)
/-- all that the walk asks of such a class, whose __init__ is its own -/
def ecB (K : PySem.W.Frag) (base x : Str) : Bool := clsB K base x && (opB (PySem.W.findIn K (.ref (He.ga K x)) "__setattr__") (some (some (.builtin "object.__setattr__"))) &&
  (PySem.W.keepIn K (.ref (He.ga K x)) && (opB (PySem.W.findIn K (.ref (He.ga K x)) "__init__") (some (some (.ref (He.ma K (He.ga K x) "__init__")))) &&
  (decide (PySem.W.typeIn K (.ref (He.ma K (He.ga K x) "__init__")) = some (.type "function")) && (opB (PySem.W.findIn K (.ref (He.ga K x)) "__getattribute__") (some (some (.builtin "BaseException.__getattribute__"))) &&
  (opB (PySem.W.findIn K (.ref (He.ga K x)) "__getattr__") (some none) && opB (PySem.W.findIn K (.ref (He.ga K x)) "__class__") (some (some (.builtin "object.__class__")))))))))
structure EcC (K : PySem.W.Frag) (base x : Str) : Prop where
  cls : ∃ nm q N bs sn sub ab col dd k0 k1 k2 k3 k5,
    K.lookup (He.ga K x) = some (excClassObj nm q (He.ga K x) N bs [.ref (He.ga K base), .type "ValueError", .type "Exception", .type "BaseException", .type "object"] true sn sub ab col dd k0 k1 k2 k3 k5 "ValueError.__new__")
  sa : PySem.W.findIn K (.ref (He.ga K x)) "__setattr__" = some (some (.builtin "object.__setattr__"))
  kC : PySem.W.keepIn K (.ref (He.ga K x)) = true
  iC : PySem.W.findIn K (.ref (He.ga K x)) "__init__" = some (some (.ref (He.ma K (He.ga K x) "__init__")))
  tI : PySem.W.typeIn K (.ref (He.ma K (He.ga K x) "__init__")) = some (.type "function")
  ga : PySem.W.findIn K (.ref (He.ga K x)) "__getattribute__" = some (some (.builtin "BaseException.__getattribute__"))
  gg : PySem.W.findIn K (.ref (He.ga K x)) "__getattr__" = some none
  kc : PySem.W.findIn K (.ref (He.ga K x)) "__class__" = some (some (.builtin "object.__class__"))
theorem ecB_ok {K : PySem.W.Frag} {base x : Str} (h : ecB K base x = true) : EcC K base x := by
  obtain ⟨h1, h⟩ := Bool.and_eq_true_iff.mp h
  obtain ⟨h2, h⟩ := Bool.and_eq_true_iff.mp h
  obtain ⟨h3, h⟩ := Bool.and_eq_true_iff.mp h
  obtain ⟨h4, h⟩ := Bool.and_eq_true_iff.mp h
  obtain ⟨h5, h⟩ := Bool.and_eq_true_iff.mp h
  obtain ⟨h6, h⟩ := Bool.and_eq_true_iff.mp h
  obtain ⟨h7, h8⟩ := Bool.and_eq_true_iff.mp h
  exact ⟨clsB_ok h1, of_decide_eq_true h2, h3, of_decide_eq_true h4, of_decide_eq_true h5, of_decide_eq_true h6, of_decide_eq_true h7, of_decide_eq_true h8⟩
section
variable {K : PySem.W.Frag} {base x : Str}
theorem EcC.cd (E : EcC K base x) : ∃ cd, PySem.W.clsIn K (He.ga K x) = some cd ∧ cd.mro = [.ref (He.ga K x), .ref (He.ga K base), .type "ValueError", .type "Exception", .type "BaseException", .type "object"] ∧ cd.hasDict = true := by
  obtain ⟨nm, q, N, bs, sn, sub, ab, col, dd, k0, k1, k2, k3, k5, h⟩ := E.cls
  refine ⟨{ name := nm, bases := bs, mro := [.ref (He.ga K x), .ref (He.ga K base), .type "ValueError", .type "Exception", .type "BaseException", .type "object"], ns := N, qualname := q, hasDict := true, slotNames := sn, subclasses := sub, abstract := ab, collection := col, hasDel := false }, ?_, rfl, rfl⟩
  unfold PySem.W.clsIn
  rw [h]
theorem EcC.mro (E : EcC K base x) (v : Value) : PySem.W.mroIn K (He.ga K x) v = some ([Value.ref (He.ga K x), .ref (He.ga K base), .type "ValueError", .type "Exception", .type "BaseException", .type "object"].contains v) := by
  obtain ⟨cd, h, hm, _⟩ := E.cd
  unfold PySem.W.mroIn
  rw [h, Option.bind_some, hm]
  rfl
theorem EcC.exC (E : EcC K base x) : PySem.W.subIn K (.ref (He.ga K x)) (.type "BaseException") = some true := by
  show PySem.W.mroIn K (He.ga K x) (.type "BaseException") = some true
  rw [E.mro]
  simp
theorem EcC.tyC (E : EcC K base x) : PySem.W.typeIn K (.ref (He.ga K x)) = some (.type "type") := by
  obtain ⟨nm, q, N, bs, sn, sub, ab, col, dd, k0, k1, k2, k3, k5, h⟩ := E.cls
  unfold PySem.W.typeIn
  simp only [h, Option.map_some]
theorem EcC.hd (E : EcC K base x) : PySem.W.hasDictIn K (He.ga K x) = true := by
  obtain ⟨cd, h, _, hd⟩ := E.cd
  unfold PySem.W.hasDictIn
  rw [h]
  simpa using hd
theorem EcC.oex (E : EcC K base x) : OexC K (He.ga K x) := by
  obtain ⟨nm, q, N, bs, sn, sub, ab, col, dd, k0, k1, k2, k3, k5, h⟩ := E.cls
  exact ⟨⟨nm, q, N, bs, _, sn, sub, ab, col, dd, k0, k1, k2, k3, k5, h, by simp only [PySem.HandSPX.refsVE]; decide +kernel⟩, E.sa, E.exC, E.tyC, E.kC⟩
theorem EcC.xf (E : EcC K base x) : XfC K (He.ga K x) := ⟨E.ga, E.gg, E.exC, E.hd⟩
theorem EcC.ec (E : EcC K base x) : L2.ExcC K (He.ga K x) := ⟨E.ga, E.gg, E.exC, E.hd, E.kc, by kernel_rfl, by kernel_rfl, by rw [E.mro]; simp⟩
/-- isinstance against a class of the program -/
theorem EcC.kit (E : EcC K base x) {D : Addr} (hD : (PySem.W.clsIn K D).isSome = true) (tD : PySem.W.typeIn K (.ref D) = some (.type "type")) : PySem.W.kitOne K (.ref (He.ga K x)) (.ref D) = some (decide (D = He.ga K x ∨ D = He.ga K base)) := by
  unfold PySem.W.kitOne
  by_cases e : D = He.ga K x
  · subst e
    rw [if_pos (by simp)]
    simp
  · rw [if_neg (by simpa using fun z => e z.symm)]
    have e2 : ((PySem.W.clsIn K D).isSome && PySem.W.typeIn K (.ref D) == some (.type "type")) = true := by
      rw [hD, tD] <;> rfl
    show (if ((PySem.W.clsIn K D).isSome && PySem.W.typeIn K (.ref D) == some (.type "type")) = true then PySem.W.mroIn K (He.ga K x) (.ref D) else none) = _
    rw [if_pos e2, E.mro]
    simp [e]
theorem EcC.kitV (E : EcC K base x) : PySem.W.kitOne K (.ref (He.ga K x)) (.type "ValueError") = some true := by
  unfold PySem.W.kitOne
  rw [if_neg (by simp)]
  show (if PySem.W.kitMeta "ValueError" = true then PySem.W.mroIn K (He.ga K x) (.type "ValueError") else none) = some true
  rw [if_pos (by decide +kernel), E.mro]
  simp
end
end ZX
set_option Elab.async false
set_option linter.all false
set_option maxRecDepth 100000
set_option maxHeartbeats 4000000
/-! The head's Hook: methods that hold their class's cell. -/
namespace ZX
open PySem PySem.Spec PyProof.Rows L2 ZR
abbrev FnS : Type := Option (Str × Str × Arguments × FuncBody × Scope × Addr × List Str × Value × Addr)
/-- what is seen of such a method: its text, and how the names of its closure are -/
def fnObsS (K : PySem.W.Frag) (p : Str × Option Str) : FnS := match K.lookup (He.fAd K p) with
  | some ⟨_, _, .func fd, _⟩ => some (fd.name, fd.qualname, fd.params, fd.body, fd.scope, fd.globals, fd.closure.map (·.1), fd.defaults, fd.builtins)
  | _ => none
def valS (d : He.FnD) : FnS := some (d.name, d.qual, d.params, .stmts d.body, d.scope, mainGlobals, [("__class__" : Str)], .none, builtinsNs)
/-- its cell holds the class x, its code is of the file z -/
def cellB (K : PySem.W.Frag) (d : He.FnD) (x z : Str) : Bool := match K.lookup (He.fAd K d.at_) with
  | some ⟨_, _, .func fd, _⟩ => (match fd.closure, fd.code with
    | [(_, cc)], .ref ca => PySem.W.codeIn K (.ref ca) d.qual && ((match K.lookup cc with
      | some ⟨_, _, .cell (some (.ref D)), _⟩ => decide (D = He.ga K x)
      | _ => false) && (match K.lookup ca with
      | some ⟨_, _, .fields vs, _⟩ => (match (vs[2]? : Option Value) with
        | some (Value.str y _) => decide (y = z)
        | _ => false)
      | _ => false))
    | _, _ => false)
  | _ => false
theorem fnS_ok {K : PySem.W.Frag} {d : He.FnD} {x z : Str} (e : fnObsS K d.at_ = valS d) (c : cellB K d x z = true) (kp : PySem.W.keepIn K (.ref (He.fAd K d.at_)) = true) :
    ∃ (cc ca : Addr) (fd : FuncData), FunC K { name := d.name, qual := d.qual, params := d.params, body := d.body, scope := d.scope, cl := [(("__class__" : Str), cc)], c := ca } (He.ga K x) (He.fAd K d.at_) fd ∧ fd.params = d.params ∧ (∃ oc od osl, K.lookup (He.fAd K d.at_) = some ⟨oc, od, .func fd, osl⟩) ∧
      ∃ ccl cdd vs ccs tf, K.lookup ca = some ⟨ccl, cdd, .fields vs, ccs⟩ ∧ vs[2]? = some (.str z tf) := by
  unfold cellB at c
  unfold fnObsS at e
  cases q : K.lookup (He.fAd K d.at_) with
  | none =>
    rw [q] at c
    cases c
  | some o =>
    obtain ⟨oc, od, dt, osl⟩ := o
    rw [q] at c e
    cases dt with
    | func fd =>
      obtain ⟨n1, n2, n3, n4, n5, n6, n7, n8, n9, n10, n11, n12, n13, n14, n15⟩ := fd
      have e2 : (some (n1, n2, n3, n4, n5, n6, n7.map (·.1), n8, n15) : FnS) = some (d.name, d.qual, d.params, .stmts d.body, d.scope, mainGlobals, [("__class__" : Str)], .none, builtinsNs) := e
      simp only [Option.some.injEq, Prod.mk.injEq] at e2
      obtain ⟨h1, h2, h3, h4, h5, h6, h7, h8, h9⟩ := e2
      subst h1 h2 h3 h4 h5 h6 h8 h9
      dsimp only at c
      split at c
      · rename_i y cc ca
        have hy : y = ("__class__" : Str) := by
          have : [y] = [("__class__" : Str)] := h7
          injection this
        subst hy
        obtain ⟨c1, c⟩ := Bool.and_eq_true_iff.mp c
        obtain ⟨c2, c3⟩ := Bool.and_eq_true_iff.mp c
        split at c2
        · rename_i cl cld D csl hcc
          have hD := of_decide_eq_true c2
          subst hD
          split at c3
          · rename_i ccl cdd vs ccs hca
            split at c3
            · rename_i y tf hv
              have hy := of_decide_eq_true c3
              subst hy
              exact ⟨cc, ca, _, ⟨⟨oc, od, n9, n10, n11, n12, n14, osl, cc, _, _, _, rfl, rfl, q, c1, hcc⟩, kp⟩, rfl, ⟨_, _, _, rfl⟩, _, _, vs, _, tf, hca, hv⟩
            · cases c3
          · cases c3
        · cases c2
      · cases c
    | _ => cases c
theorem FunC_bindsN {K : PySem.W.Frag} {F : NdefX.NF} {D f : Addr} {fd : FuncData} {ps : List Str} (FC : FunC K F D f fd)
    (h : ∀ (kV doc pm : Value) (an : Option Addr) (ct : Value) (us : List Value), us.length = ps.length → bindArgs (PySem.W.fnX F.name F.qual F.params F.body F.scope F.cl .none kV doc pm an (.ref F.c) ct) ⟨us, []⟩ = pure (ps.zip us)) : Binds K fd ps [] := by
  obtain ⟨oc, od, kV, doc, pm, an, ct, osl, cc, cl, cld, csl, hcl, rfl, _⟩ := FC.ex
  exact .all (h kV doc pm an ct)
theorem fnIn_kp {K : PySem.W.Frag} {x qual : Str} {params : Arguments} {body : List Stmt} {scope : Scope} {dvs : List V} {kws : List (Str × V)} {f : Addr} {fd : FuncData} (F : FunD K x qual params body scope dvs kws f fd) : PySem.W.fnIn K f = true := by
  obtain ⟨oc, od, dV, kV, doc, pm, an, cdv, ct, osl, rfl, lk, _⟩ := F.ex
  unfold PySem.W.fnIn
  rw [lk]
/-- what super() asks of the classes x over y -/
def supB (K : PySem.W.Frag) (x y m : Str) : Bool := (PySem.W.clsIn K (He.ga K x)).isSome && (decide (PySem.W.mroIn K (He.ga K x) (.ref (He.ga K x)) = some true) && (decide (PySem.W.nsIn K cStatics "thirdparty.any" = some none) &&
  (opB (PySem.W.ks_superIn K (He.ga K x) (He.ga K x) m) (some (some (.ref (He.ma K (He.ga K y) m)))) && (decide (PySem.W.typeIn K (.ref (He.ma K (He.ga K y) m)) = some (.type "function")) && PySem.W.fnIn K (He.ma K (He.ga K y) m)))))
theorem supS_ok {P : Program} {K : PySem.W.Frag} {d : He.FnD} {ca : Addr} {fd : FuncData} {x y m z : Str} (s : supB K x y m = true) (hf : (P.main.file == z) = true) (ht : (P.main.scope.names.lookup ("super" : Str)).isSome = false) (hp : fd.params = d.params) (hs : ∃ ar, (d.params.posonlyargs ++ d.params.args).head? = some ar ∧ ar.arg = ("self" : Str)) (hk : ∃ oc od osl, K.lookup (He.fAd K d.at_) = some ⟨oc, od, .func fd, osl⟩) (hc : ∃ ccl cdd vs ccs tf, K.lookup ca = some ⟨ccl, cdd, .fields vs, ccs⟩ ∧ vs[2]? = some (.str z tf)) :
    SupC P K (He.fAd K d.at_) ca (He.ga K x) (He.ga K x) (He.ma K (He.ga K y) m) m := by
  obtain ⟨s1, s⟩ := Bool.and_eq_true_iff.mp s
  obtain ⟨s2, s⟩ := Bool.and_eq_true_iff.mp s
  obtain ⟨s3, s⟩ := Bool.and_eq_true_iff.mp s
  obtain ⟨s4, s⟩ := Bool.and_eq_true_iff.mp s
  obtain ⟨s5, s6⟩ := Bool.and_eq_true_iff.mp s
  obtain ⟨oc, od, osl, hk⟩ := hk
  obtain ⟨ccl, cdd, vs, ccs, tf, h1, h2⟩ := hc
  obtain ⟨ar, a1, a2⟩ := hs
  have hcls := Option.isSome_iff_exists.mp s1
  exact ⟨⟨oc, od, fd, osl, ar, hk, by rw [hp]; exact a1, a2⟩, ⟨ccl, cdd, vs, ccs, z, tf, h1, h2, hf⟩, ht, hcls, hcls, of_decide_eq_true s2, of_decide_eq_true s3, of_decide_eq_true s4, of_decide_eq_true s5, s6⟩
/-! ### the Hook -/
/-- the cell of such a method -/
def cellOf (K : PySem.W.Frag) (p : Str × Option Str) : Addr := match K.lookup (He.fAd K p) with
  | some ⟨_, _, .func fd, _⟩ => (match fd.closure with
    | (_, cc) :: _ => cc
    | _ => 0)
  | _ => 0
/-- what an object names, its class's row of classes left out -/
def refsX (o : Obj) : List Addr := match o.data with
  | .cls cd => [cd.ns]
  | _ => He.refsD o
def nxtX (g : Addr → Option Obj) (as : List Addr) : List Addr := as.flatMap fun a => match g a with
  | some o => refsX o
  | none => []
def lvX (g : Addr → Option Obj) : Nat → List Addr
  | 0 => [mainGlobals]
  | n + 1 => nxtX g (lvX g n)
/-- what the module's names reach in n steps, step by step; nothing is looked for twice -/
def asX (g : Addr → Option Obj) : Nat → List Addr → List Addr
  | 0, r => mainGlobals :: r
  | n + 1, r => asX g n (lvX g (n + 1) ++ r)
def asS (g : Addr → Option Obj) (n : Nat) (p : Str × Option Str) : List Addr := cStatics :: cellOf (He.frG g (asX g n [])) p :: asX g n []
structure SaysS (fa : List He.Fa) (fn : List He.DefD) (sn : List He.FnD) (ex : PySem.W.Frag → Bool) (K : PySem.W.Frag) : Prop where
  b : SaysB fa fn ex K
  s : (sn.map fun d => fnObsS K d.at_) = sn.map valS
abbrev AlS : Type := AlB × List FnS
def obsS (fa : List He.Fa) (fn : List He.DefD) (sn : List He.FnD) (ex : PySem.W.Frag → Bool) (K : PySem.W.Frag) : AlS := (obsB fa fn ex K, sn.map fun d => fnObsS K d.at_)
def obsSG (n : Nat) (fa : List He.Fa) (fn : List He.DefD) (sn : List He.FnD) (p : Str × Option Str) (ex : PySem.W.Frag → Bool) (g : Addr → Option Obj) : AlS := obsS fa fn sn ex (He.frG g (asS g n p))
def hookS (n : Nat) (fa : List He.Fa) (fn : List He.DefD) (sn : List He.FnD) (p : Str × Option Str) (ex : PySem.W.Frag → Bool) : PySem.W.Hook where
  α := AlS
  obs := fun s => obsSG n fa fn sn p ex s.heap.get?
  val := fun _ => (valB fn, sn.map valS)
  says := fun _ h => ∃ K : PySem.W.Frag, K.In h ∧ SaysS fa fn sn ex K
  of := fun _ _ e => ⟨_, He.frG_in, ⟨congrArg (fun z : AlS => z.1.1) e, congrArg (fun z : AlS => z.1.2) e⟩, congrArg (fun z : AlS => z.2) e⟩
  keeps := fun _ _ _ ⟨K, hK, c⟩ k => ⟨K, PySem.W.Frag.In.keeps hK k, c⟩
theorem obsSG_eq {n : Nat} {fa : List He.Fa} {fn : List He.DefD} {sn : List He.FnD} {p : Str × Option Str} {ex : PySem.W.Frag → Bool} {g : Addr → Option Obj} {s : Shared} (h : ∀ a, g a = s.heap.get? a) : obsSG n fa fn sn p ex g = (hookS n fa fn sn p ex).obs s := by
  have e : g = s.heap.get? := funext h
  rw [e] <;> rfl
theorem SaysS.def_ {fa : List He.Fa} {fn : List He.DefD} {sn : List He.FnD} {ex : PySem.W.Frag → Bool} {K : PySem.W.Frag} (c : SaysS fa fn sn ex K) (i : Nat) {d : He.FnD} (h : sn[i]? = some d) : fnObsS K d.at_ = valS d := by
  have e : (sn.map fun d => fnObsS K d.at_)[i]? = (sn.map valS)[i]? := by rw [c.s]
  rw [List.getElem?_map, List.getElem?_map, h] at e
  exact Option.some.inj e
end ZX
set_option Elab.async false
set_option linter.all false
set_option maxRecDepth 100000
set_option maxHeartbeats 0
namespace K24
open PySem PySem.Spec PyProof.Rows L2 ZX
/-! ### the head: facts by names, the run -/
abbrev iNoPlace : Stmt := inClass (top 4) 0
abbrev iNoWay : Stmt := inClass (top 11) 0
abbrev iNoLot : Stmt := inClass (top 12) 0
def dD (x : Str) (st : Stmt) : He.DefD := ⟨(x, none), x, x, defArgs st, defBody st, defScope st, [], []⟩
/-- a def with defaults -/
def dV (x : Str) (st : Stmt) (l : List He.Dv) : He.DefD := ⟨(x, none), x, x, defArgs st, defBody st, defScope st, l, []⟩
def dM (x m q : Str) (st : Stmt) : He.DefD := ⟨(x, some m), m, q, defArgs st, defBody st, defScope st, [], []⟩
def fn : List He.DefD := ([dD "is_integer" sIs_integer, dD "is_number_below" sIs_number_below, dD "is_name" sIs_name, dD "is_lot" sIsLot, dD "is_parts" sIs_parts, dD "is_block" sIs_block, dV "is_row" sIs_row [.int 0], dD "blocks_of" sBlocks_of, dD "names_of" sNames_of, dD "formless_place" sFormless_place, dD "rows_of" sRows_of, dD "all_names" sAll_names, dD "bad_place" sBad_place, dD "block_leads" sBlock_leads, dD "row_leads" sRow_leads, dD "names" sNames, dD "ops" sOps, dD "row_at" sRow_at, dD "nexts" sNexts, dD "is_way" sIsWay, dD "lot_behind" sLotBehind, dD "with_name" sWithName, dD "holders" sHolders, dD "functions_of" sFunctionsOf, dD "place_behind" sPlaceBehind] : List He.DefD) ++ ([dD "told" sTold, dD "go_to" sGoTo, dD "_law_hand" sHand, dD "_law_draw" sDraw, dD "_law_any" sAny, dD "_law_size" sLSize, dD "_law_lay" sLLay, dD "_law_table" sLTable, dD "_law_names" sLNames, dD "_law_words" sLWords, dD "_law_plain" sLPlain, dD "_law_inner" sLInner, dD "_law_wide" sLWide, dD "_law_led" sLLed, dD "_law_bits" sLBits, dD "_law_lot" sLLot, dD "_law_moved" sLMoved, dD "_law_along" sLAlong, dD "_law_count" sLCount, dD "_law_functions" sLFuns, dD "_law_do" sLDo, dD "_law_beneath" sLBeneath, dD "_law_held" sLHeld, dD "_law_is_followed" sLFoll, dD "law" sLaw] : List He.DefD) ++ ([dM "Program" "__init__" "Program.__init__" sProgramInit, dM "NoPlace" "__init__" "NoPlace.__init__" iNoPlace, dM "NoWay" "__init__" "NoWay.__init__" iNoWay, dM "NoLot" "__init__" "NoLot.__init__" iNoLot, dM "Holding" "__init__" "Holding.__init__" sHInit, dM "Holding" "do" "Holding.do" sHDo, dM "Notes" "held" "Holding.held" sHHeld, dM "Notes" "waiting" "Holding.waiting" sHWaiting, dM "Notes" "_put_off" "Holding._put_off" sHPutOff, dM "Notes" "_numbers" "Holding._numbers" sHNumbers, dM "Notes" "_now" "Holding._now" sHNow, dM "Notes" "_open" "Holding._open" sHOpen, dM "Notes" "_worth" "Holding._worth" sHWorth, dM "Notes" "_work_out" "Holding._work_out" sHWorkOut, dM "Notes" "_worked_out" "Holding._worked_out" sHWorkedOut, dM "Notes" "_met" "Holding._met" sHMet, dM "Run" "__init__" "Run.__init__" sRInit, dM "Run" "step" "Run.step" sRStep, dM "Run" "place" "Run.place" sRPlace, dM "Run" "waiting" "Run.waiting" sRWaiting] : List He.DefD)
def fa : List He.Fa := ([.glo "is_integer", .glo "is_number_below", .glo "is_name", .glo "is_lot", .glo "is_parts", .glo "is_block", .glo "is_row", .glo "blocks_of", .glo "names_of", .glo "formless_place", .glo "rows_of", .glo "all_names", .glo "bad_place", .glo "block_leads", .glo "row_leads", .glo "names", .glo "ops", .glo "row_at", .glo "nexts", .glo "is_way", .glo "lot_behind", .glo "with_name", .glo "holders", .glo "functions_of", .glo "place_behind"] : List He.Fa) ++ ([.glo "told", .glo "go_to", .glo "_law_hand", .glo "_law_draw", .glo "_law_any", .glo "_law_size", .glo "_law_lay", .glo "_law_table", .glo "_law_names", .glo "_law_words", .glo "_law_plain", .glo "_law_inner", .glo "_law_wide", .glo "_law_led", .glo "_law_bits", .glo "_law_lot", .glo "_law_moved", .glo "_law_along", .glo "_law_count", .glo "_law_functions", .glo "_law_do", .glo "_law_beneath", .glo "_law_held", .glo "_law_is_followed", .glo "law"] : List He.Fa) ++ ([.glo "Program", .glo "ASKING", .glo "WRITING", .glo "NOTHING", .glo "PileError", .glo "NoPlace", .glo "NoWay", .glo "NoLot", .glo "Holding", .glo "Notes", .glo "Run", .free "abs", .free "all", .free "bool", .free "enumerate", .free "int", .free "isinstance", .free "len", .free "list", .free "range", .free "set", .free "sorted", .free "str", .free "sum", .free "tuple"] : List He.Fa) ++ ([.free "zip", .free "ValueError", .free "any", .free "dict", .free "super", .int "MOST_ROWS_IN_BLOCK" 12, .int "MOST_ROWS" 30, .int "MOST_DEEP" 4, .int "MOST_NAMES" 8, .int "MOST_PARTS" 3, .int "MOST_LETTERS" 8, .cls "Program", .mkr "Program", .noat "Program" "block", .noat "Program" "_rows", .noat "Program" "_leads", .noat "Program" "_names", .cls "Notes", .mkr "Notes", .noat "Notes" "functions", .noat "Notes" "heads", .noat "Notes" "made", .noat "Notes" "worths", .noat "Notes" "order", .noat "Notes" "printed"] : List He.Fa) ++ ([.noat "Notes" "trail", .cls "Run", .mkr "Run", .noat "Run" "_functions", .noat "Run" "_program", .noat "Run" "_notes", .noat "Run" "_way", .meth "Notes" "do", .meth "Notes" "held", .meth "Notes" "waiting", .meth "Notes" "_put_off", .meth "Notes" "_numbers", .meth "Notes" "_now", .meth "Notes" "_open", .meth "Notes" "_worth", .meth "Notes" "_work_out", .meth "Notes" "_worked_out", .meth "Notes" "_met", .meth "Run" "step", .meth "Run" "place", .meth "Run" "waiting"] : List He.Fa)
def excs : List Str := ["NoPlace", "NoWay", "NoLot"]
/-- what is asked of a class of objects -/
def objB (K : PySem.W.Frag) (x : Str) : Bool := opB (PySem.W.findIn K (.ref (He.ga K x)) "__class__") (some (some (.builtin "object.__class__"))) && (opB (PySem.W.specialIn K (.builtin "object.__class__") "__get__") (some (some (.builtin "getset_descriptor.__get__"))) && (decide (PySem.W.takesIn K (.builtin "object.__class__") = some true) && (decide (PySem.W.mroIn K (He.ga K x) (.type "object") = some true) && ((PySem.W.clsIn K (He.ga K x)).isSome && (decide (PySem.W.typeIn K (.ref (He.ga K x)) = some (.type "type")) && (decide (PySem.W.mroIn K (He.ga K x) (.type "int") = some false) && (decide (PySem.W.mroIn K (He.ga K x) (.type "tuple") = some false) && (opB (PySem.W.findIn K (.ref (He.ga K x)) "__ne__") (some (some (.builtin "object.__ne__"))) && decide (PySem.W.mroIn K (He.ga K x) (.type "str") = some false)))))))))
/-- a method that holds its class -/
def sd_sNInit : He.FnD := ⟨("Notes", some "__init__"), "__init__", "Notes.__init__", defArgs sNInit, defBody sNInit, defScope sNInit⟩
/-- a method that holds its class -/
def sd_sNDo : He.FnD := ⟨("Notes", some "do"), "do", "Notes.do", defArgs sNDo, defBody sNDo, defScope sNDo⟩
def tups (K : PySem.W.Frag) : Bool := true && He.tupB K "ASKING" [.str "ask", .str "print"] && He.tupB K "WRITING" [.str "note", .str "copy", .str "give", .str "drop"] && He.tupB K "NOTHING" [.str "worth", .int 0] && cellB K sd_sNInit "Notes" "/claim/cut.py" && PySem.W.keepIn K (.ref (He.fAd K sd_sNInit.at_)) && supB K "Notes" "Holding" "__init__" && cellB K sd_sNDo "Notes" "/claim/cut.py" && PySem.W.keepIn K (.ref (He.fAd K sd_sNDo.at_)) && supB K "Notes" "Holding" "do"
def sn : List He.FnD := [sd_sNInit, sd_sNDo]
def ex (K : PySem.W.Frag) : Bool := ((excs.all fun x => ecB K "PileError" x) && [("Program" : Str), ("Notes" : Str), ("Run" : Str)].all fun x => objB K x) && tups K
abbrev R : PySem.W.OpenRow := PySem.W.OpenLaw.row PySem.Challenge.rw_putoffpiles_k24_whole_holders_follow_eac
abbrev hk : PySem.W.Hook := hookS 5 fa fn sn ("Notes", some "__init__") ex
def ob (s : PySem.W.SharedT) : AlS := obsSG 5 fa fn sn ("Notes", some "__init__") ex (HandSHeadRun.getT s)
theorem ob_eq (s : PySem.W.SharedT) : ob s = hk.obs s.abs := obsSG_eq (HandSHeadRun.getT_eq s)
def loose : List Str := (["PileError", "BadProgram", "NoPlace", "NoFunctions", "IsOver", "BadStep", "NoName", "NoNote", "NothingDone", "NoWay", "NoLot", "Program", "Holding", "Notes", "Run", "_wall", "is_integer", "is_number_below", "is_name", "is_lot", "is_parts", "is_block", "is_row", "blocks_of", "names_of"] : List Str) ++ (["formless_place", "rows_of", "all_names", "bad_place", "block_leads", "row_leads", "names", "ops", "row_at", "nexts", "is_way", "lot_behind", "with_name", "holders", "functions_of", "place_behind", "told", "go_to", "_law_hand", "_law_draw", "_law_any", "_law_size", "_law_lay", "_law_table", "_law_names"] : List Str) ++ (["_law_words", "_law_plain", "_law_inner", "_law_wide", "_law_led", "_law_bits", "_law_lot", "_law_moved", "_law_along", "_law_count", "_law_functions", "_law_do", "_law_beneath", "_law_held", "_law_is_followed", "MOST_ROWS_IN_BLOCK", "MOST_ROWS", "MOST_DEEP", "MOST_NAMES", "MOST_PARTS", "MOST_LETTERS", "ASKING", "WRITING", "NOTHING"] : List Str)
theorem run (w : World) : HandSHeadRun.RunEq R (PySem.W.view R.prog [80]) hk ob 20000 loose w := by
  intro os
  kernel_rfl
end K24
set_option Elab.async false
set_option linter.all false
set_option maxRecDepth 100000
set_option maxHeartbeats 4000000
namespace K24
open PySem PySem.Spec PyProof.Rows L2 ZX PM ZR
section
variable {P : Program} {w : World} {K : PySem.W.Frag} {h : Heap} {mg : Str → Option Value} {base : Heap}
theorem glo (X : K.In h) (G : h.Ns mainGlobals mg) (c : SaysB fa fn ex K) (i : Nat) (x : Str) (e : fa[i]? = some (.glo x)) : mg x = some (.ref (He.ga K x)) := He.glo_ok X G (c.d.fact i (f := .glo x) e)
theorem free (X : K.In h) (G : h.Ns mainGlobals mg) (c : SaysB fa fn ex K) (i : Nat) (x : Str) (e : fa[i]? = some (.free x)) : mg x = none := He.free_ok X G (c.d.fact i (f := .free x) e)
theorem bi_of (X : K.In h) (G : h.Ns mainGlobals mg) (c : SaysB fa fn ex K) : Bi mg := { b_abs := free X G c 61 _ rfl, b_all := free X G c 62 _ rfl, b_bool := free X G c 63 _ rfl, b_enumerate := free X G c 64 _ rfl, b_int := free X G c 65 _ rfl, b_isinstance := free X G c 66 _ rfl, b_len := free X G c 67 _ rfl, b_list := free X G c 68 _ rfl, b_range := free X G c 69 _ rfl, b_set := free X G c 70 _ rfl, b_sorted := free X G c 71 _ rfl, b_str := free X G c 72 _ rfl, b_sum := free X G c 73 _ rfl, b_tuple := free X G c 74 _ rfl, b_zip := free X G c 75 _ rfl, m_MOST_ROWS_IN_BLOCK := He.int_ok X G (c.d.fact 80 (f := .int "MOST_ROWS_IN_BLOCK" 12) rfl), m_MOST_ROWS := He.int_ok X G (c.d.fact 81 (f := .int "MOST_ROWS" 30) rfl), m_MOST_DEEP := He.int_ok X G (c.d.fact 82 (f := .int "MOST_DEEP" 4) rfl), m_MOST_NAMES := He.int_ok X G (c.d.fact 83 (f := .int "MOST_NAMES" 8) rfl), m_MOST_PARTS := He.int_ok X G (c.d.fact 84 (f := .int "MOST_PARTS" 3) rfl), m_MOST_LETTERS := He.int_ok X G (c.d.fact 85 (f := .int "MOST_LETTERS" 8) rfl) }
theorem exc_of (c : SaysB fa fn ex K) {x : Str} (hx : x ∈ excs) : EcC K "PileError" x := ecB_ok (List.all_eq_true.mp (Bool.and_eq_true_iff.mp (Bool.and_eq_true_iff.mp (show (((excs.all fun x => ecB K "PileError" x) && _) && tups K) = true from c.more)).1).1 x hx)
theorem tups_of (c : SaysB fa fn ex K) : (true && He.tupB K "ASKING" [.str "ask", .str "print"] && He.tupB K "WRITING" [.str "note", .str "copy", .str "give", .str "drop"] && He.tupB K "NOTHING" [.str "worth", .int 0] && cellB K sd_sNInit "Notes" "/claim/cut.py" && PySem.W.keepIn K (.ref (He.fAd K sd_sNInit.at_)) && supB K "Notes" "Holding" "__init__" && cellB K sd_sNDo "Notes" "/claim/cut.py" && PySem.W.keepIn K (.ref (He.fAd K sd_sNDo.at_)) && supB K "Notes" "Holding" "do") = true := (Bool.and_eq_true_iff.mp (show (_ && tups K) = true from c.more)).2
theorem tup_ASKING (X : K.In h) (G : h.Ns mainGlobals mg) (c : SaysB fa fn ex K) : ∃ a, mg "ASKING" = some (.ref a) ∧ ∀ H, SqT K H a [.str "ask", .str "print"] := ⟨_, glo X G c 51 _ rfl, fun H => He.tupB_ok (vs := [.str "ask", .str "print"]) ((Bool.and_eq_true_iff.mp ((Bool.and_eq_true_iff.mp ((Bool.and_eq_true_iff.mp ((Bool.and_eq_true_iff.mp ((Bool.and_eq_true_iff.mp ((Bool.and_eq_true_iff.mp ((Bool.and_eq_true_iff.mp ((Bool.and_eq_true_iff.mp ((Bool.and_eq_true_iff.mp (tups_of c)).1)).1)).1)).1)).1)).1)).1)).1)).2) H⟩
theorem tup_WRITING (X : K.In h) (G : h.Ns mainGlobals mg) (c : SaysB fa fn ex K) : ∃ a, mg "WRITING" = some (.ref a) ∧ ∀ H, SqT K H a [.str "note", .str "copy", .str "give", .str "drop"] := ⟨_, glo X G c 52 _ rfl, fun H => He.tupB_ok (vs := [.str "note", .str "copy", .str "give", .str "drop"]) ((Bool.and_eq_true_iff.mp ((Bool.and_eq_true_iff.mp ((Bool.and_eq_true_iff.mp ((Bool.and_eq_true_iff.mp ((Bool.and_eq_true_iff.mp ((Bool.and_eq_true_iff.mp ((Bool.and_eq_true_iff.mp ((Bool.and_eq_true_iff.mp (tups_of c)).1)).1)).1)).1)).1)).1)).1)).2) H⟩
theorem tup_NOTHING (X : K.In h) (G : h.Ns mainGlobals mg) (c : SaysB fa fn ex K) : ∃ a, mg "NOTHING" = some (.ref a) ∧ ∀ H, SqT K H a [.str "worth", .int 0] := ⟨_, glo X G c 53 _ rfl, fun H => He.tupB_ok (vs := [.str "worth", .int 0]) ((Bool.and_eq_true_iff.mp ((Bool.and_eq_true_iff.mp ((Bool.and_eq_true_iff.mp ((Bool.and_eq_true_iff.mp ((Bool.and_eq_true_iff.mp ((Bool.and_eq_true_iff.mp ((Bool.and_eq_true_iff.mp (tups_of c)).1)).1)).1)).1)).1)).1)).2) H⟩
theorem cell_sNInit (c : SaysB fa fn ex K) : cellB K sd_sNInit "Notes" "/claim/cut.py" = true := (Bool.and_eq_true_iff.mp ((Bool.and_eq_true_iff.mp ((Bool.and_eq_true_iff.mp ((Bool.and_eq_true_iff.mp ((Bool.and_eq_true_iff.mp ((Bool.and_eq_true_iff.mp (tups_of c)).1)).1)).1)).1)).1)).2
theorem keep_sNInit (c : SaysB fa fn ex K) : PySem.W.keepIn K (.ref (He.fAd K sd_sNInit.at_)) = true := (Bool.and_eq_true_iff.mp ((Bool.and_eq_true_iff.mp ((Bool.and_eq_true_iff.mp ((Bool.and_eq_true_iff.mp ((Bool.and_eq_true_iff.mp (tups_of c)).1)).1)).1)).1)).2
theorem sup_sNInit (c : SaysB fa fn ex K) : supB K "Notes" "Holding" "__init__" = true := (Bool.and_eq_true_iff.mp ((Bool.and_eq_true_iff.mp ((Bool.and_eq_true_iff.mp ((Bool.and_eq_true_iff.mp (tups_of c)).1)).1)).1)).2
theorem cell_sNDo (c : SaysB fa fn ex K) : cellB K sd_sNDo "Notes" "/claim/cut.py" = true := (Bool.and_eq_true_iff.mp ((Bool.and_eq_true_iff.mp ((Bool.and_eq_true_iff.mp (tups_of c)).1)).1)).2
theorem keep_sNDo (c : SaysB fa fn ex K) : PySem.W.keepIn K (.ref (He.fAd K sd_sNDo.at_)) = true := (Bool.and_eq_true_iff.mp ((Bool.and_eq_true_iff.mp (tups_of c)).1)).2
theorem sup_sNDo (c : SaysB fa fn ex K) : supB K "Notes" "Holding" "do" = true := (Bool.and_eq_true_iff.mp (tups_of c)).2
structure ObjProgram (K : PySem.W.Frag) : Prop where
  c : Cls K (He.ga K "Program")
  m : Mk K (He.ga K "Program") (He.ma K (He.ga K "Program") "__init__")
  ga : PySem.W.findIn K (.ref (He.ga K "Program")) "__class__" = some (some (.builtin "object.__class__"))
  gn : PySem.W.specialIn K (.builtin "object.__class__") "__get__" = some (some (.builtin "getset_descriptor.__get__"))
  gt : PySem.W.takesIn K (.builtin "object.__class__") = some true
  gm : PySem.W.mroIn K (He.ga K "Program") (.type "object") = some true
  isC : (PySem.W.clsIn K (He.ga K "Program")).isSome = true
  tyC : PySem.W.typeIn K (.ref (He.ga K "Program")) = some (.type "type")
  gi : PySem.W.mroIn K (He.ga K "Program") (.type "int") = some false
  tu : PySem.W.mroIn K (He.ga K "Program") (.type "tuple") = some false
  ne : PySem.W.findIn K (.ref (He.ga K "Program")) "__ne__" = some (some (.builtin "object.__ne__"))
  st : PySem.W.mroIn K (He.ga K "Program") (.type "str") = some false
  n_block : NoAttr K (He.ga K "Program") "block"
  n__rows : NoAttr K (He.ga K "Program") "_rows"
  n__leads : NoAttr K (He.ga K "Program") "_leads"
  n__names : NoAttr K (He.ga K "Program") "_names"
theorem objProgram_of (c : SaysB fa fn ex K) : ObjProgram K := by
  have hex := (Bool.and_eq_true_iff.mp (Bool.and_eq_true_iff.mp (show (((excs.all fun x => ecB K "PileError" x) && [("Program" : Str), ("Notes" : Str), ("Run" : Str)].all fun x => objB K x) && tups K) = true from c.more)).1).2
  have h := List.all_eq_true.mp hex "Program" (by simp)
  obtain ⟨h1, h⟩ := Bool.and_eq_true_iff.mp h
  obtain ⟨h2, h⟩ := Bool.and_eq_true_iff.mp h
  obtain ⟨h3, h⟩ := Bool.and_eq_true_iff.mp h
  obtain ⟨h4, h⟩ := Bool.and_eq_true_iff.mp h
  obtain ⟨h5, h⟩ := Bool.and_eq_true_iff.mp h
  obtain ⟨h6, h⟩ := Bool.and_eq_true_iff.mp h
  obtain ⟨h7, h⟩ := Bool.and_eq_true_iff.mp h
  obtain ⟨h8, h⟩ := Bool.and_eq_true_iff.mp h
  obtain ⟨h9, h10⟩ := Bool.and_eq_true_iff.mp h
  exact ⟨He.cls_ok (c.d.fact 86 (f := .cls "Program") rfl), He.mkr_ok (c.d.fact 87 (f := .mkr "Program") rfl), of_decide_eq_true h1, of_decide_eq_true h2, of_decide_eq_true h3, of_decide_eq_true h4, h5, of_decide_eq_true h6, of_decide_eq_true h7, of_decide_eq_true h8, of_decide_eq_true h9, of_decide_eq_true h10, He.noat_ok (c.d.fact 88 (f := .noat "Program" "block") rfl), He.noat_ok (c.d.fact 89 (f := .noat "Program" "_rows") rfl), He.noat_ok (c.d.fact 90 (f := .noat "Program" "_leads") rfl), He.noat_ok (c.d.fact 91 (f := .noat "Program" "_names") rfl)⟩
structure ObjNotes (K : PySem.W.Frag) : Prop where
  c : Cls K (He.ga K "Notes")
  m : Mk K (He.ga K "Notes") (He.ma K (He.ga K "Notes") "__init__")
  ga : PySem.W.findIn K (.ref (He.ga K "Notes")) "__class__" = some (some (.builtin "object.__class__"))
  gn : PySem.W.specialIn K (.builtin "object.__class__") "__get__" = some (some (.builtin "getset_descriptor.__get__"))
  gt : PySem.W.takesIn K (.builtin "object.__class__") = some true
  gm : PySem.W.mroIn K (He.ga K "Notes") (.type "object") = some true
  isC : (PySem.W.clsIn K (He.ga K "Notes")).isSome = true
  tyC : PySem.W.typeIn K (.ref (He.ga K "Notes")) = some (.type "type")
  gi : PySem.W.mroIn K (He.ga K "Notes") (.type "int") = some false
  tu : PySem.W.mroIn K (He.ga K "Notes") (.type "tuple") = some false
  ne : PySem.W.findIn K (.ref (He.ga K "Notes")) "__ne__" = some (some (.builtin "object.__ne__"))
  st : PySem.W.mroIn K (He.ga K "Notes") (.type "str") = some false
  n_functions : NoAttr K (He.ga K "Notes") "functions"
  n_heads : NoAttr K (He.ga K "Notes") "heads"
  n_made : NoAttr K (He.ga K "Notes") "made"
  n_worths : NoAttr K (He.ga K "Notes") "worths"
  n_order : NoAttr K (He.ga K "Notes") "order"
  n_printed : NoAttr K (He.ga K "Notes") "printed"
  n_trail : NoAttr K (He.ga K "Notes") "trail"
theorem objNotes_of (c : SaysB fa fn ex K) : ObjNotes K := by
  have hex := (Bool.and_eq_true_iff.mp (Bool.and_eq_true_iff.mp (show (((excs.all fun x => ecB K "PileError" x) && [("Program" : Str), ("Notes" : Str), ("Run" : Str)].all fun x => objB K x) && tups K) = true from c.more)).1).2
  have h := List.all_eq_true.mp hex "Notes" (by simp)
  obtain ⟨h1, h⟩ := Bool.and_eq_true_iff.mp h
  obtain ⟨h2, h⟩ := Bool.and_eq_true_iff.mp h
  obtain ⟨h3, h⟩ := Bool.and_eq_true_iff.mp h
  obtain ⟨h4, h⟩ := Bool.and_eq_true_iff.mp h
  obtain ⟨h5, h⟩ := Bool.and_eq_true_iff.mp h
  obtain ⟨h6, h⟩ := Bool.and_eq_true_iff.mp h
  obtain ⟨h7, h⟩ := Bool.and_eq_true_iff.mp h
  obtain ⟨h8, h⟩ := Bool.and_eq_true_iff.mp h
  obtain ⟨h9, h10⟩ := Bool.and_eq_true_iff.mp h
  exact ⟨He.cls_ok (c.d.fact 92 (f := .cls "Notes") rfl), He.mkr_ok (c.d.fact 93 (f := .mkr "Notes") rfl), of_decide_eq_true h1, of_decide_eq_true h2, of_decide_eq_true h3, of_decide_eq_true h4, h5, of_decide_eq_true h6, of_decide_eq_true h7, of_decide_eq_true h8, of_decide_eq_true h9, of_decide_eq_true h10, He.noat_ok (c.d.fact 94 (f := .noat "Notes" "functions") rfl), He.noat_ok (c.d.fact 95 (f := .noat "Notes" "heads") rfl), He.noat_ok (c.d.fact 96 (f := .noat "Notes" "made") rfl), He.noat_ok (c.d.fact 97 (f := .noat "Notes" "worths") rfl), He.noat_ok (c.d.fact 98 (f := .noat "Notes" "order") rfl), He.noat_ok (c.d.fact 99 (f := .noat "Notes" "printed") rfl), He.noat_ok (c.d.fact 100 (f := .noat "Notes" "trail") rfl)⟩
structure ObjRun (K : PySem.W.Frag) : Prop where
  c : Cls K (He.ga K "Run")
  m : Mk K (He.ga K "Run") (He.ma K (He.ga K "Run") "__init__")
  ga : PySem.W.findIn K (.ref (He.ga K "Run")) "__class__" = some (some (.builtin "object.__class__"))
  gn : PySem.W.specialIn K (.builtin "object.__class__") "__get__" = some (some (.builtin "getset_descriptor.__get__"))
  gt : PySem.W.takesIn K (.builtin "object.__class__") = some true
  gm : PySem.W.mroIn K (He.ga K "Run") (.type "object") = some true
  isC : (PySem.W.clsIn K (He.ga K "Run")).isSome = true
  tyC : PySem.W.typeIn K (.ref (He.ga K "Run")) = some (.type "type")
  gi : PySem.W.mroIn K (He.ga K "Run") (.type "int") = some false
  tu : PySem.W.mroIn K (He.ga K "Run") (.type "tuple") = some false
  ne : PySem.W.findIn K (.ref (He.ga K "Run")) "__ne__" = some (some (.builtin "object.__ne__"))
  st : PySem.W.mroIn K (He.ga K "Run") (.type "str") = some false
  n__functions : NoAttr K (He.ga K "Run") "_functions"
  n__program : NoAttr K (He.ga K "Run") "_program"
  n__notes : NoAttr K (He.ga K "Run") "_notes"
  n__way : NoAttr K (He.ga K "Run") "_way"
theorem objRun_of (c : SaysB fa fn ex K) : ObjRun K := by
  have hex := (Bool.and_eq_true_iff.mp (Bool.and_eq_true_iff.mp (show (((excs.all fun x => ecB K "PileError" x) && [("Program" : Str), ("Notes" : Str), ("Run" : Str)].all fun x => objB K x) && tups K) = true from c.more)).1).2
  have h := List.all_eq_true.mp hex "Run" (by simp)
  obtain ⟨h1, h⟩ := Bool.and_eq_true_iff.mp h
  obtain ⟨h2, h⟩ := Bool.and_eq_true_iff.mp h
  obtain ⟨h3, h⟩ := Bool.and_eq_true_iff.mp h
  obtain ⟨h4, h⟩ := Bool.and_eq_true_iff.mp h
  obtain ⟨h5, h⟩ := Bool.and_eq_true_iff.mp h
  obtain ⟨h6, h⟩ := Bool.and_eq_true_iff.mp h
  obtain ⟨h7, h⟩ := Bool.and_eq_true_iff.mp h
  obtain ⟨h8, h⟩ := Bool.and_eq_true_iff.mp h
  obtain ⟨h9, h10⟩ := Bool.and_eq_true_iff.mp h
  exact ⟨He.cls_ok (c.d.fact 101 (f := .cls "Run") rfl), He.mkr_ok (c.d.fact 102 (f := .mkr "Run") rfl), of_decide_eq_true h1, of_decide_eq_true h2, of_decide_eq_true h3, of_decide_eq_true h4, h5, of_decide_eq_true h6, of_decide_eq_true h7, of_decide_eq_true h8, of_decide_eq_true h9, of_decide_eq_true h10, He.noat_ok (c.d.fact 103 (f := .noat "Run" "_functions") rfl), He.noat_ok (c.d.fact 104 (f := .noat "Run" "_program") rfl), He.noat_ok (c.d.fact 105 (f := .noat "Run" "_notes") rfl), He.noat_ok (c.d.fact 106 (f := .noat "Run" "_way") rfl)⟩
end
theorem scNoPlace : FnScope ["self"] ["self"] (defScope iNoPlace) := ⟨rfl, rfl, rfl, by decide +kernel, rfl, by decide +kernel, by decide +kernel⟩
theorem ok_NoPlace {P : Program} {w : World} {K : PySem.W.Frag} {mg : Str → Option Value} {base : Heap} {f : Addr} {fd : FuncData} (F : FunD K "__init__" "NoPlace.__init__" (defArgs iNoPlace) (defBody iNoPlace) (defScope iNoPlace) [] [] f fd) : FnOk P w K mg base CX0 1 f fd ["self"] spP := by
  refine F.ok scNoPlace (fun vs H Q E h => ?_) (fun cdv A outer s H vs Q E' hr h => ?_)
  · obtain ⟨a, rfl, _⟩ := h
    rfl
  · obtain ⟨a, rfl, k⟩ := h
    exact ⟨_, PSs.nox (pss_one ps_pass), k⟩
theorem scNoWay : FnScope ["self"] ["self"] (defScope iNoWay) := ⟨rfl, rfl, rfl, by decide +kernel, rfl, by decide +kernel, by decide +kernel⟩
theorem ok_NoWay {P : Program} {w : World} {K : PySem.W.Frag} {mg : Str → Option Value} {base : Heap} {f : Addr} {fd : FuncData} (F : FunD K "__init__" "NoWay.__init__" (defArgs iNoWay) (defBody iNoWay) (defScope iNoWay) [] [] f fd) : FnOk P w K mg base CX0 1 f fd ["self"] spP := by
  refine F.ok scNoWay (fun vs H Q E h => ?_) (fun cdv A outer s H vs Q E' hr h => ?_)
  · obtain ⟨a, rfl, _⟩ := h
    rfl
  · obtain ⟨a, rfl, k⟩ := h
    exact ⟨_, PSs.nox (pss_one ps_pass), k⟩
theorem scNoLot : FnScope ["self"] ["self"] (defScope iNoLot) := ⟨rfl, rfl, rfl, by decide +kernel, rfl, by decide +kernel, by decide +kernel⟩
theorem ok_NoLot {P : Program} {w : World} {K : PySem.W.Frag} {mg : Str → Option Value} {base : Heap} {f : Addr} {fd : FuncData} (F : FunD K "__init__" "NoLot.__init__" (defArgs iNoLot) (defBody iNoLot) (defScope iNoLot) [] [] f fd) : FnOk P w K mg base CX0 1 f fd ["self"] spP := by
  refine F.ok scNoLot (fun vs H Q E h => ?_) (fun cdv A outer s H vs Q E' hr h => ?_)
  · obtain ⟨a, rfl, _⟩ := h
    rfl
  · obtain ⟨a, rfl, k⟩ := h
    exact ⟨_, PSs.nox (pss_one ps_pass), k⟩
theorem facts {P : Program} {w : World} {K : PySem.W.Frag} {h : Heap} {mg : Str → Option Value} {f : Addr} (X : K.In h) (G : h.Ns mainGlobals mg) (hfile : (P.main.file == ("/claim/cut.py" : Str)) = true) (htop : (P.main.scope.names.lookup ("super" : Str)).isSome = false) (hfa : mg ("law" : Str) = some (.ref f)) (cs : SaysS fa fn sn ex K) :
    ∃ fd : FuncData, (∀ (s : Shared) (v : Value), BindsTo s fd ⟨[v], []⟩ [("_law_script", v)]) ∧ ∀ base : Heap, K.In base → base.Ns mainGlobals mg → FnOk P w K mg base CX0 31 f fd ["_law_script"] (spLaw K) := by
  have c := cs.b
  obtain ⟨f_law, F_law⟩ := c.d.def_ 49 (d := dD "law" sLaw) rfl
  have e := hfa.symm.trans (He.glo_ok X G (c.d.fact 49 (f := .glo "law") rfl))
  cases e
  have b := FunD.bindsA (ps := ["_law_script"]) F_law fun _ _ _ _ _ _ us hl => match us, hl with | [_], _ => rfl
  refine ⟨f_law, fun s v => b s [v] rfl, fun base _ _ => ?_⟩
  have bi := bi_of X G c
  have oP := objProgram_of c
  have oN := objNotes_of c
  have oR := objRun_of c
  have asking : Asking K mg := tup_ASKING X G c
  have writing : TupC K mg "WRITING" [.str "note", .str "copy", .str "give", .str "drop"] := tup_WRITING X G c
  have nothing : TupC K mg "NOTHING" [.str "worth", .int 0] := tup_NOTHING X G c

  obtain ⟨f_is_integer, F_is_integer⟩ := c.d.def_ 0 (d := dD "is_integer" sIs_integer) rfl
  obtain ⟨f_is_number_below, F_is_number_below⟩ := c.d.def_ 1 (d := dD "is_number_below" sIs_number_below) rfl
  obtain ⟨f_is_name, F_is_name⟩ := c.d.def_ 2 (d := dD "is_name" sIs_name) rfl
  obtain ⟨f_is_lot, F_is_lot⟩ := c.d.def_ 3 (d := dD "is_lot" sIsLot) rfl
  obtain ⟨f_is_parts, F_is_parts⟩ := c.d.def_ 4 (d := dD "is_parts" sIs_parts) rfl
  obtain ⟨f_is_block, F_is_block⟩ := c.d.def_ 5 (d := dD "is_block" sIs_block) rfl
  obtain ⟨f_is_row, F_is_row⟩ := c.d.def_ 6 (d := dV "is_row" sIs_row [.int 0]) rfl
  obtain ⟨f_blocks_of, F_blocks_of⟩ := c.d.def_ 7 (d := dD "blocks_of" sBlocks_of) rfl
  obtain ⟨f_names_of, F_names_of⟩ := c.d.def_ 8 (d := dD "names_of" sNames_of) rfl
  obtain ⟨f_formless_place, F_formless_place⟩ := c.d.def_ 9 (d := dD "formless_place" sFormless_place) rfl
  obtain ⟨f_rows_of, F_rows_of⟩ := c.d.def_ 10 (d := dD "rows_of" sRows_of) rfl
  obtain ⟨f_all_names, F_all_names⟩ := c.d.def_ 11 (d := dD "all_names" sAll_names) rfl
  obtain ⟨f_bad_place, F_bad_place⟩ := c.d.def_ 12 (d := dD "bad_place" sBad_place) rfl
  obtain ⟨f_block_leads, F_block_leads⟩ := c.d.def_ 13 (d := dD "block_leads" sBlock_leads) rfl
  obtain ⟨f_row_leads, F_row_leads⟩ := c.d.def_ 14 (d := dD "row_leads" sRow_leads) rfl
  obtain ⟨f_names, F_names⟩ := c.d.def_ 15 (d := dD "names" sNames) rfl
  obtain ⟨f_ops, F_ops⟩ := c.d.def_ 16 (d := dD "ops" sOps) rfl
  obtain ⟨f_row_at, F_row_at⟩ := c.d.def_ 17 (d := dD "row_at" sRow_at) rfl
  obtain ⟨f_nexts, F_nexts⟩ := c.d.def_ 18 (d := dD "nexts" sNexts) rfl
  obtain ⟨f_is_way, F_is_way⟩ := c.d.def_ 19 (d := dD "is_way" sIsWay) rfl
  obtain ⟨f_lot_behind, F_lot_behind⟩ := c.d.def_ 20 (d := dD "lot_behind" sLotBehind) rfl
  obtain ⟨f_with_name, F_with_name⟩ := c.d.def_ 21 (d := dD "with_name" sWithName) rfl
  obtain ⟨f_holders, F_holders⟩ := c.d.def_ 22 (d := dD "holders" sHolders) rfl
  obtain ⟨f_functions_of, F_functions_of⟩ := c.d.def_ 23 (d := dD "functions_of" sFunctionsOf) rfl
  obtain ⟨f_place_behind, F_place_behind⟩ := c.d.def_ 24 (d := dD "place_behind" sPlaceBehind) rfl
  obtain ⟨f_told, F_told⟩ := c.d.def_ 25 (d := dD "told" sTold) rfl
  obtain ⟨f_go_to, F_go_to⟩ := c.d.def_ 26 (d := dD "go_to" sGoTo) rfl
  obtain ⟨f__law_hand, F__law_hand⟩ := c.d.def_ 27 (d := dD "_law_hand" sHand) rfl
  obtain ⟨f__law_draw, F__law_draw⟩ := c.d.def_ 28 (d := dD "_law_draw" sDraw) rfl
  obtain ⟨f__law_any, F__law_any⟩ := c.d.def_ 29 (d := dD "_law_any" sAny) rfl
  obtain ⟨f__law_size, F__law_size⟩ := c.d.def_ 30 (d := dD "_law_size" sLSize) rfl
  obtain ⟨f__law_lay, F__law_lay⟩ := c.d.def_ 31 (d := dD "_law_lay" sLLay) rfl
  obtain ⟨f__law_table, F__law_table⟩ := c.d.def_ 32 (d := dD "_law_table" sLTable) rfl
  obtain ⟨f__law_names, F__law_names⟩ := c.d.def_ 33 (d := dD "_law_names" sLNames) rfl
  obtain ⟨f__law_words, F__law_words⟩ := c.d.def_ 34 (d := dD "_law_words" sLWords) rfl
  obtain ⟨f__law_plain, F__law_plain⟩ := c.d.def_ 35 (d := dD "_law_plain" sLPlain) rfl
  obtain ⟨f__law_inner, F__law_inner⟩ := c.d.def_ 36 (d := dD "_law_inner" sLInner) rfl
  obtain ⟨f__law_wide, F__law_wide⟩ := c.d.def_ 37 (d := dD "_law_wide" sLWide) rfl
  obtain ⟨f__law_led, F__law_led⟩ := c.d.def_ 38 (d := dD "_law_led" sLLed) rfl
  obtain ⟨f__law_bits, F__law_bits⟩ := c.d.def_ 39 (d := dD "_law_bits" sLBits) rfl
  obtain ⟨f__law_lot, F__law_lot⟩ := c.d.def_ 40 (d := dD "_law_lot" sLLot) rfl
  obtain ⟨f__law_moved, F__law_moved⟩ := c.d.def_ 41 (d := dD "_law_moved" sLMoved) rfl
  obtain ⟨f__law_along, F__law_along⟩ := c.d.def_ 42 (d := dD "_law_along" sLAlong) rfl
  obtain ⟨f__law_count, F__law_count⟩ := c.d.def_ 43 (d := dD "_law_count" sLCount) rfl
  obtain ⟨f__law_functions, F__law_functions⟩ := c.d.def_ 44 (d := dD "_law_functions" sLFuns) rfl
  obtain ⟨f__law_do, F__law_do⟩ := c.d.def_ 45 (d := dD "_law_do" sLDo) rfl
  obtain ⟨f__law_beneath, F__law_beneath⟩ := c.d.def_ 46 (d := dD "_law_beneath" sLBeneath) rfl
  obtain ⟨f__law_held, F__law_held⟩ := c.d.def_ 47 (d := dD "_law_held" sLHeld) rfl
  obtain ⟨f__law_is_followed, F__law_is_followed⟩ := c.d.def_ 48 (d := dD "_law_is_followed" sLFoll) rfl
  obtain ⟨f_init, F_init⟩ := c.d.def_ 50 (d := dM "Program" "__init__" "Program.__init__" sProgramInit) rfl
  have pc : PrC K (He.ga K "Program") := ⟨oP.c, oP.n_block, oP.n__rows, oP.n__leads, oP.n__names⟩
  have nc : NtC K (He.ga K "Notes") := ⟨oN.c, oN.n_functions, oN.n_heads, oN.n_made, oN.n_worths, oN.n_order, oN.n_printed, oN.n_trail⟩
  have rc : RnC K (He.ga K "Run") := ⟨oR.c, oR.n__functions, oR.n__program, oR.n__notes, oR.n__way⟩
  have bany : mg "any" = none := free X G c 77 _ rfl
  have bdict : mg "dict" = none := free X G c 78 _ rfl
  have bsuper : mg "super" = none := free X G c 79 _ rfl
  have gP : mg "Program" = some (.ref (He.ga K "Program")) := glo X G c 50 _ rfl
  have e_NoPlace := exc_of c (x := "NoPlace") (by simp [excs])
  obtain ⟨f_NoPlace, F_NoPlace⟩ := c.d.def_ 51 (d := dM "NoPlace" "__init__" "NoPlace.__init__" iNoPlace) rfl
  have g_NoPlace : mg "NoPlace" = some (.ref (He.ga K "NoPlace")) := glo X G c 55 _ rfl
  have n_NoPlace : NoP P w K mg base (He.ga K "NoPlace") (He.ma K (He.ga K "NoPlace") "__init__") f_NoPlace ["self"] := ⟨e_NoPlace.oex, e_NoPlace.iC, e_NoPlace.tI, ok_NoPlace F_NoPlace, FunD.bindsN (ps := ["self"]) F_NoPlace (fun _ _ _ _ _ _ us hl => match us, hl with | [_], _ => rfl), g_NoPlace⟩
  have e_NoWay := exc_of c (x := "NoWay") (by simp [excs])
  obtain ⟨f_NoWay, F_NoWay⟩ := c.d.def_ 52 (d := dM "NoWay" "__init__" "NoWay.__init__" iNoWay) rfl
  have g_NoWay : mg "NoWay" = some (.ref (He.ga K "NoWay")) := glo X G c 56 _ rfl
  have n_NoWay : NoE P w K mg base "NoWay" (He.ga K "NoWay") (He.ma K (He.ga K "NoWay") "__init__") f_NoWay ["self"] := ⟨e_NoWay.oex, e_NoWay.iC, e_NoWay.tI, ok_NoWay F_NoWay, FunD.bindsN (ps := ["self"]) F_NoWay (fun _ _ _ _ _ _ us hl => match us, hl with | [_], _ => rfl), g_NoWay⟩
  have e_NoLot := exc_of c (x := "NoLot") (by simp [excs])
  obtain ⟨f_NoLot, F_NoLot⟩ := c.d.def_ 53 (d := dM "NoLot" "__init__" "NoLot.__init__" iNoLot) rfl
  have g_NoLot : mg "NoLot" = some (.ref (He.ga K "NoLot")) := glo X G c 57 _ rfl
  have n_NoLot : NoE P w K mg base "NoLot" (He.ga K "NoLot") (He.ma K (He.ga K "NoLot") "__init__") f_NoLot ["self"] := ⟨e_NoLot.oex, e_NoLot.iC, e_NoLot.tI, ok_NoLot F_NoLot, FunD.bindsN (ps := ["self"]) F_NoLot (fun _ _ _ _ _ _ us hl => match us, hl with | [_], _ => rfl), g_NoLot⟩
  have C_is_integer : Cal P w K mg base "is_integer" 1 ["thing"] (spIsInt K) := ⟨_, f_is_integer, ok_is_integer F_is_integer bi, glo X G c 0 _ rfl, F_is_integer.kp, FunD.bindsN (ps := ["thing"]) F_is_integer fun _ _ _ _ _ _ us hl => match us, hl with | [_], _ => rfl⟩
  have C_is_number_below : Cal P w K mg base "is_number_below" 2 ["limit", "thing"] (spBelow K) := ⟨_, f_is_number_below, ok_below F_is_number_below bi C_is_integer, glo X G c 1 _ rfl, F_is_number_below.kp, FunD.bindsN (ps := ["limit", "thing"]) F_is_number_below fun _ _ _ _ _ _ us hl => match us, hl with | [_, _], _ => rfl⟩
  have C_is_name : Cal P w K mg base "is_name" 1 ["thing"] (spIsName) := ⟨_, f_is_name, ok_is_name F_is_name bi, glo X G c 2 _ rfl, F_is_name.kp, FunD.bindsN (ps := ["thing"]) F_is_name fun _ _ _ _ _ _ us hl => match us, hl with | [_], _ => rfl⟩
  have C_is_parts : Cal P w K mg base "is_parts" 2 ["thing"] (spIsParts K) := ⟨_, f_is_parts, ok_is_parts F_is_parts bi C_is_name, glo X G c 4 _ rfl, F_is_parts.kp, FunD.bindsN (ps := ["thing"]) F_is_parts fun _ _ _ _ _ _ us hl => match us, hl with | [_], _ => rfl⟩
  have C_is_block : Cal P w K mg base "is_block" 1 ["deep", "thing"] (spIsBlock K) := ⟨_, f_is_block, ok_is_block F_is_block bi, glo X G c 5 _ rfl, F_is_block.kp, FunD.bindsN (ps := ["deep", "thing"]) F_is_block fun _ _ _ _ _ _ us hl => match us, hl with | [_, _], _ => rfl⟩
  have B_is_row : L2.Binds K f_is_row ["deep", "thing", "many"] [] := by
    obtain ⟨ds, hv, hb⟩ := FunD.binds1 (ps := ["deep", "thing", "many"]) F_is_row 3 1 (fun h => by cases h) rfl fun _ _ _ _ _ _ _ us its hl hi => match us, hl, its, hi with | [_, _, _], _, [_], _ => ⟨_, rfl, rfl⟩
    cases hv
    exact hb
  have C_is_row : Cal P w K mg base "is_row" 3 ["deep", "thing", "many"] (spIsRow K) := ⟨_, f_is_row, ok_is_row F_is_row bi asking C_is_integer C_is_number_below C_is_name C_is_parts C_is_block, glo X G c 6 _ rfl, F_is_row.kp, B_is_row⟩
  have C_blocks_of : Cal P w K mg base "blocks_of" 1 ["row"] (spBlocksOf K) := ⟨_, f_blocks_of, ok_blocks_of F_blocks_of bi, glo X G c 7 _ rfl, F_blocks_of.kp, FunD.bindsN (ps := ["row"]) F_blocks_of fun _ _ _ _ _ _ us hl => match us, hl with | [_], _ => rfl⟩
  have C_names_of : Cal P w K mg base "names_of" 2 ["row"] (spNamesOf K) := ⟨_, f_names_of, ok_names_of F_names_of bi asking, glo X G c 8 _ rfl, F_names_of.kp, FunD.bindsN (ps := ["row"]) F_names_of fun _ _ _ _ _ _ us hl => match us, hl with | [_], _ => rfl⟩
  have C_formless_place : Cal P w K mg base "formless_place" 4 ["block", "many"] (spFormless K) := ⟨_, f_formless_place, ok_formless F_formless_place bi C_is_row C_blocks_of, glo X G c 9 _ rfl, F_formless_place.kp, FunD.bindsN (ps := ["block", "many"]) F_formless_place fun _ _ _ _ _ _ us hl => match us, hl with | [_, _], _ => rfl⟩
  have C0_rows_of : Cal P w K mg base "rows_of" 1 ["block"] (spRowsOf K 0) := ⟨_, f_rows_of, ok_rows_of0 _, glo X G c 10 _ rfl, F_rows_of.kp, FunD.bindsN (ps := ["block"]) F_rows_of fun _ _ _ _ _ _ us hl => match us, hl with | [_], _ => rfl⟩
  have C1_rows_of : Cal P w K mg base "rows_of" 2 ["block"] (spRowsOf K 1) := ⟨_, f_rows_of, ok_rows_of1 F_rows_of bi C_blocks_of C0_rows_of, glo X G c 10 _ rfl, F_rows_of.kp, FunD.bindsN (ps := ["block"]) F_rows_of fun _ _ _ _ _ _ us hl => match us, hl with | [_], _ => rfl⟩
  have C2_rows_of : Cal P w K mg base "rows_of" 3 ["block"] (spRowsOf K 2) := ⟨_, f_rows_of, ok_rows_of1 F_rows_of bi C_blocks_of C1_rows_of, glo X G c 10 _ rfl, F_rows_of.kp, FunD.bindsN (ps := ["block"]) F_rows_of fun _ _ _ _ _ _ us hl => match us, hl with | [_], _ => rfl⟩
  have C3_rows_of : Cal P w K mg base "rows_of" 4 ["block"] (spRowsOf K 3) := ⟨_, f_rows_of, ok_rows_of1 F_rows_of bi C_blocks_of C2_rows_of, glo X G c 10 _ rfl, F_rows_of.kp, FunD.bindsN (ps := ["block"]) F_rows_of fun _ _ _ _ _ _ us hl => match us, hl with | [_], _ => rfl⟩
  have C4_rows_of : Cal P w K mg base "rows_of" 5 ["block"] (spRowsOf K 4) := ⟨_, f_rows_of, ok_rows_of1 F_rows_of bi C_blocks_of C3_rows_of, glo X G c 10 _ rfl, F_rows_of.kp, FunD.bindsN (ps := ["block"]) F_rows_of fun _ _ _ _ _ _ us hl => match us, hl with | [_], _ => rfl⟩
  have C_all_names : Cal P w K mg base "all_names" 3 ["rows"] (spAllNames K) := ⟨_, f_all_names, ok_all_names F_all_names bi C_names_of, glo X G c 11 _ rfl, F_all_names.kp, FunD.bindsN (ps := ["rows"]) F_all_names fun _ _ _ _ _ _ us hl => match us, hl with | [_], _ => rfl⟩
  have C_bad_place : Cal P w K mg base "bad_place" 6 ["block", "many"] (spBad K) := ⟨_, f_bad_place, ok_bad_place F_bad_place bi C_formless_place C4_rows_of C_all_names, glo X G c 12 _ rfl, F_bad_place.kp, FunD.bindsN (ps := ["block", "many"]) F_bad_place fun _ _ _ _ _ _ us hl => match us, hl with | [_, _], _ => rfl⟩
  have R0 : Cal P w K mg base "row_leads" 6 ["row", "place", "behind"] (spRowLeads K 0) := ⟨_, f_row_leads, ok_row_leads0 _, glo X G c 14 _ rfl, F_row_leads.kp, FunD.bindsN (ps := ["row", "place", "behind"]) F_row_leads fun _ _ _ _ _ _ us hl => match us, hl with | [_, _, _], _ => rfl⟩
  have B0 : Cal P w K mg base "block_leads" 7 ["block", "place", "behind"] (spBlockLeads K 0) := ⟨_, f_block_leads, ok_block_leads1 F_block_leads bi (by decide) C4_rows_of R0, glo X G c 13 _ rfl, F_block_leads.kp, FunD.bindsN (ps := ["block", "place", "behind"]) F_block_leads fun _ _ _ _ _ _ us hl => match us, hl with | [_, _, _], _ => rfl⟩
  have R1 : Cal P w K mg base "row_leads" 8 ["row", "place", "behind"] (spRowLeads K 1) := ⟨_, f_row_leads, ok_row_leads1 F_row_leads bi (by decide) C4_rows_of B0, glo X G c 14 _ rfl, F_row_leads.kp, FunD.bindsN (ps := ["row", "place", "behind"]) F_row_leads fun _ _ _ _ _ _ us hl => match us, hl with | [_, _, _], _ => rfl⟩
  have B1 : Cal P w K mg base "block_leads" 9 ["block", "place", "behind"] (spBlockLeads K 1) := ⟨_, f_block_leads, ok_block_leads1 F_block_leads bi (by decide) C4_rows_of R1, glo X G c 13 _ rfl, F_block_leads.kp, FunD.bindsN (ps := ["block", "place", "behind"]) F_block_leads fun _ _ _ _ _ _ us hl => match us, hl with | [_, _, _], _ => rfl⟩
  have R2 : Cal P w K mg base "row_leads" 10 ["row", "place", "behind"] (spRowLeads K 2) := ⟨_, f_row_leads, ok_row_leads1 F_row_leads bi (by decide) C4_rows_of B1, glo X G c 14 _ rfl, F_row_leads.kp, FunD.bindsN (ps := ["row", "place", "behind"]) F_row_leads fun _ _ _ _ _ _ us hl => match us, hl with | [_, _, _], _ => rfl⟩
  have B2 : Cal P w K mg base "block_leads" 11 ["block", "place", "behind"] (spBlockLeads K 2) := ⟨_, f_block_leads, ok_block_leads1 F_block_leads bi (by decide) C4_rows_of R2, glo X G c 13 _ rfl, F_block_leads.kp, FunD.bindsN (ps := ["block", "place", "behind"]) F_block_leads fun _ _ _ _ _ _ us hl => match us, hl with | [_, _, _], _ => rfl⟩
  have R3 : Cal P w K mg base "row_leads" 12 ["row", "place", "behind"] (spRowLeads K 3) := ⟨_, f_row_leads, ok_row_leads1 F_row_leads bi (by decide) C4_rows_of B2, glo X G c 14 _ rfl, F_row_leads.kp, FunD.bindsN (ps := ["row", "place", "behind"]) F_row_leads fun _ _ _ _ _ _ us hl => match us, hl with | [_, _, _], _ => rfl⟩
  have B3 : Cal P w K mg base "block_leads" 13 ["block", "place", "behind"] (spBlockLeads K 3) := ⟨_, f_block_leads, ok_block_leads1 F_block_leads bi (by decide) C4_rows_of R3, glo X G c 13 _ rfl, F_block_leads.kp, FunD.bindsN (ps := ["block", "place", "behind"]) F_block_leads fun _ _ _ _ _ _ us hl => match us, hl with | [_, _, _], _ => rfl⟩
  have R4 : Cal P w K mg base "row_leads" 14 ["row", "place", "behind"] (spRowLeads K 4) := ⟨_, f_row_leads, ok_row_leads1 F_row_leads bi (by decide) C4_rows_of B3, glo X G c 14 _ rfl, F_row_leads.kp, FunD.bindsN (ps := ["row", "place", "behind"]) F_row_leads fun _ _ _ _ _ _ us hl => match us, hl with | [_, _, _], _ => rfl⟩
  have B4 : Cal P w K mg base "block_leads" 15 ["block", "place", "behind"] (spBlockLeads K 4) := ⟨_, f_block_leads, ok_block_leads1 F_block_leads bi (by decide) C4_rows_of R4, glo X G c 13 _ rfl, F_block_leads.kp, FunD.bindsN (ps := ["block", "place", "behind"]) F_block_leads fun _ _ _ _ _ _ us hl => match us, hl with | [_, _, _], _ => rfl⟩
  have C_is_way : Cal P w K mg base "is_way" 3 ["program", "thing"] (spIsWay K (He.ga K "Program")) := ⟨_, f_is_way, ok_is_way F_is_way bi pc C_is_number_below, glo X G c 19 _ rfl, F_is_way.kp, FunD.bindsN (ps := ["program", "thing"]) F_is_way fun _ _ _ _ _ _ us hl => match us, hl with | [_, _], _ => rfl⟩
  have C_is_lot : Cal P w K mg base "is_lot" 1 ["members", "thing"] (spIsLot K) := ⟨_, f_is_lot, ok_is_lot F_is_lot bi bany bi.b_bool, glo X G c 3 _ rfl, F_is_lot.kp, FunD.bindsN (ps := ["members", "thing"]) F_is_lot fun _ _ _ _ _ _ us hl => match us, hl with | [_, _], _ => rfl⟩
  have C_names : Cal P w K mg base "names" 1 ["program"] (spNames K (He.ga K "Program")) := ⟨_, f_names, ok_names F_names bi pc, glo X G c 15 _ rfl, F_names.kp, FunD.bindsN (ps := ["program"]) F_names fun _ _ _ _ _ _ us hl => match us, hl with | [_], _ => rfl⟩
  have C_ops : Cal P w K mg base "ops" 1 ["program"] (spOps K (He.ga K "Program")) := ⟨_, f_ops, ok_ops F_ops bi pc, glo X G c 16 _ rfl, F_ops.kp, FunD.bindsN (ps := ["program"]) F_ops fun _ _ _ _ _ _ us hl => match us, hl with | [_], _ => rfl⟩
  have C_row_at : CalX P w K mg base "row_at" 3 ["program", "place"] (spRowAt K (He.ga K "Program") (He.ga K "NoPlace")) := ⟨_, f_row_at, ok_row_at F_row_at bi pc n_NoPlace C_is_number_below, glo X G c 17 _ rfl, F_row_at.kp, FunD.bindsN (ps := ["program", "place"]) F_row_at fun _ _ _ _ _ _ us hl => match us, hl with | [_, _], _ => rfl⟩
  have C_nexts : CalX P w K mg base "nexts" 3 ["program", "place"] (spNexts K (He.ga K "Program") (He.ga K "NoPlace")) := ⟨_, f_nexts, ok_nexts F_nexts bi pc n_NoPlace C_is_number_below, glo X G c 18 _ rfl, F_nexts.kp, FunD.bindsN (ps := ["program", "place"]) F_nexts fun _ _ _ _ _ _ us hl => match us, hl with | [_, _], _ => rfl⟩
  have C_with_name : Cal P w K mg base "with_name" 1 ["lot", "name", "is_in"] (spWithName K) := ⟨_, f_with_name, ok_with_name F_with_name bi, glo X G c 21 _ rfl, F_with_name.kp, FunD.bindsN (ps := ["lot", "name", "is_in"]) F_with_name fun _ _ _ _ _ _ us hl => match us, hl with | [_, _, _], _ => rfl⟩
  have C_lot_behind : Cal P w K mg base "lot_behind" 2 ["row", "lot"] (spLotBehind K) := ⟨_, f_lot_behind, ok_lot_behind F_lot_behind bi asking bany C_with_name, glo X G c 20 _ rfl, F_lot_behind.kp, FunD.bindsN (ps := ["row", "lot"]) F_lot_behind fun _ _ _ _ _ _ us hl => match us, hl with | [_, _], _ => rfl⟩
  have C_holders : CalX P w K mg base "holders" 4 ["program", "way", "lot"] (spHolders K (He.ga K "Program")) := ⟨_, f_holders, ok_holders F_holders bi pc n_NoWay n_NoLot C_is_way C_is_lot C_names C_lot_behind C_row_at, glo X G c 22 _ rfl, F_holders.kp, FunD.bindsN (ps := ["program", "way", "lot"]) F_holders fun _ _ _ _ _ _ us hl => match us, hl with | [_, _, _], _ => rfl⟩
  have C_functions_of : Cal P w K mg base "functions_of" 1 ["wanted", "functions"] (spFunctionsOf K) := ⟨_, f_functions_of, ok_functions_of F_functions_of bi bdict, glo X G c 23 _ rfl, F_functions_of.kp, FunD.bindsN (ps := ["wanted", "functions"]) F_functions_of fun _ _ _ _ _ _ us hl => match us, hl with | [_, _], _ => rfl⟩
  have C_place_behind : Cal P w K mg base "place_behind" 4 ["program", "place", "which"] (spPlaceBehind K (He.ga K "Program")) := ⟨_, f_place_behind, ok_place_behind F_place_behind bi C_nexts C_is_number_below, glo X G c 24 _ rfl, F_place_behind.kp, FunD.bindsN (ps := ["program", "place", "which"]) F_place_behind fun _ _ _ _ _ _ us hl => match us, hl with | [_, _, _], _ => rfl⟩
  obtain ⟨f_Holding___init__, F_Holding___init__⟩ := c.d.def_ 54 (d := dM "Holding" "__init__" "Holding.__init__" sHInit) rfl
  obtain ⟨f_Holding_do, F_Holding_do⟩ := c.d.def_ 55 (d := dM "Holding" "do" "Holding.do" sHDo) rfl
  obtain ⟨f_Notes_held, F_Notes_held⟩ := c.d.def_ 56 (d := dM "Notes" "held" "Holding.held" sHHeld) rfl
  obtain ⟨f_Notes_waiting, F_Notes_waiting⟩ := c.d.def_ 57 (d := dM "Notes" "waiting" "Holding.waiting" sHWaiting) rfl
  obtain ⟨f_Notes__put_off, F_Notes__put_off⟩ := c.d.def_ 58 (d := dM "Notes" "_put_off" "Holding._put_off" sHPutOff) rfl
  obtain ⟨f_Notes__numbers, F_Notes__numbers⟩ := c.d.def_ 59 (d := dM "Notes" "_numbers" "Holding._numbers" sHNumbers) rfl
  obtain ⟨f_Notes__now, F_Notes__now⟩ := c.d.def_ 60 (d := dM "Notes" "_now" "Holding._now" sHNow) rfl
  obtain ⟨f_Notes__open, F_Notes__open⟩ := c.d.def_ 61 (d := dM "Notes" "_open" "Holding._open" sHOpen) rfl
  obtain ⟨f_Notes__worth, F_Notes__worth⟩ := c.d.def_ 62 (d := dM "Notes" "_worth" "Holding._worth" sHWorth) rfl
  obtain ⟨f_Notes__work_out, F_Notes__work_out⟩ := c.d.def_ 63 (d := dM "Notes" "_work_out" "Holding._work_out" sHWorkOut) rfl
  obtain ⟨f_Notes__worked_out, F_Notes__worked_out⟩ := c.d.def_ 64 (d := dM "Notes" "_worked_out" "Holding._worked_out" sHWorkedOut) rfl
  obtain ⟨f_Notes__met, F_Notes__met⟩ := c.d.def_ 65 (d := dM "Notes" "_met" "Holding._met" sHMet) rfl
  obtain ⟨f_Run___init__, F_Run___init__⟩ := c.d.def_ 66 (d := dM "Run" "__init__" "Run.__init__" sRInit) rfl
  obtain ⟨f_Run_step, F_Run_step⟩ := c.d.def_ 67 (d := dM "Run" "step" "Run.step" sRStep) rfl
  obtain ⟨f_Run_place, F_Run_place⟩ := c.d.def_ 68 (d := dM "Run" "place" "Run.place" sRPlace) rfl
  obtain ⟨f_Run_waiting, F_Run_waiting⟩ := c.d.def_ 69 (d := dM "Run" "waiting" "Run.waiting" sRWaiting) rfl
  have M_now : ∀ (fm : Fam P w K mg base) (F : List (Str × Addr)) (ns : List Str), ns.length < 64 → MCal P w K mg base (He.ga K "Notes") "_now" (1) ["self", "thing"] (spNow fm (He.ga K "Notes") F ns) := fun fm F ns hn => ⟨oN.c, _, f_Notes__now, ok_now F_Notes__now nc, He.meth_ok (c.d.fact 112 (f := .meth "Notes" "_now") rfl), FunD.bindsN (ps := ["self", "thing"]) F_Notes__now fun _ _ _ _ _ _ us hl => match us, hl with | [_, _], _ => rfl⟩
  have M_held : ∀ (fm : Fam P w K mg base) (F : List (Str × Addr)) (ns : List Str), ns.length < 64 → MCal P w K mg base (He.ga K "Notes") "held" (2) ["self", "name"] (spHeld fm (He.ga K "Notes") F ns) := fun fm F ns hn => ⟨oN.c, _, f_Notes_held, ok_held F_Notes_held nc nothing (M_now fm F ns hn), He.meth_ok (c.d.fact 108 (f := .meth "Notes" "held") rfl), FunD.bindsN (ps := ["self", "name"]) F_Notes_held fun _ _ _ _ _ _ us hl => match us, hl with | [_, _], _ => rfl⟩
  have M_open : ∀ (fm : Fam P w K mg base) (F : List (Str × Addr)) (ns : List Str), ns.length < 64 → MCal P w K mg base (He.ga K "Notes") "_open" (1) ["self", "things", "fresh"] (spOpen fm (He.ga K "Notes") F ns) := fun fm F ns hn => ⟨oN.c, _, f_Notes__open, ok_open F_Notes__open nc, He.meth_ok (c.d.fact 113 (f := .meth "Notes" "_open") rfl), FunD.bindsN (ps := ["self", "things", "fresh"]) F_Notes__open fun _ _ _ _ _ _ us hl => match us, hl with | [_, _, _], _ => rfl⟩
  have M_worth : ∀ (fm : Fam P w K mg base) (F : List (Str × Addr)) (ns : List Str), ns.length < 64 → MCal P w K mg base (He.ga K "Notes") "_worth" (2) ["self", "thing", "fresh"] (spWorth fm (He.ga K "Notes") F ns) := fun fm F ns hn => ⟨oN.c, _, f_Notes__worth, ok_worth F_Notes__worth nc (M_now fm F ns hn), He.meth_ok (c.d.fact 114 (f := .meth "Notes" "_worth") rfl), FunD.bindsN (ps := ["self", "thing", "fresh"]) F_Notes__worth fun _ _ _ _ _ _ us hl => match us, hl with | [_, _, _], _ => rfl⟩
  have M_wo : ∀ (fm : Fam P w K mg base) (F : List (Str × Addr)) (ns : List Str), ns.length < 64 → MCal P w K mg base (He.ga K "Notes") "_worked_out" (fm.lev + 3) ["self", "thing"] (spWorkedOut fm (He.ga K "Notes") F ns) := fun fm F ns hn => ⟨oN.c, _, f_Notes__worked_out, ok_worked_out F_Notes__worked_out bi nc (M_open fm F ns hn) (M_worth fm F ns hn), He.meth_ok (c.d.fact 116 (f := .meth "Notes" "_worked_out") rfl), FunD.bindsN (ps := ["self", "thing"]) F_Notes__worked_out fun _ _ _ _ _ _ us hl => match us, hl with | [_, _], _ => rfl⟩
  have M_nu : MCal P w K mg base (He.ga K "Notes") "_numbers" (1) ["self", "kept"] (spNumbers) := ⟨oN.c, _, f_Notes__numbers, ok_numbers F_Notes__numbers bi, He.meth_ok (c.d.fact 111 (f := .meth "Notes" "_numbers") rfl), FunD.bindsN (ps := ["self", "kept"]) F_Notes__numbers fun _ _ _ _ _ _ us hl => match us, hl with | [_, _], _ => rfl⟩
  have M_work : ∀ (fm : Fam P w K mg base) (F : List (Str × Addr)) (ns : List Str), ns.length < 64 → MCal P w K mg base (He.ga K "Notes") "_work_out" (fm.lev + 4) ["self", "thing"] (spWorkOut fm (He.ga K "Notes") F ns) := fun fm F ns hn => ⟨oN.c, _, f_Notes__work_out, ok_work_out F_Notes__work_out bi nc (M_wo fm F ns hn) M_nu, He.meth_ok (c.d.fact 115 (f := .meth "Notes" "_work_out") rfl), FunD.bindsN (ps := ["self", "thing"]) F_Notes__work_out fun _ _ _ _ _ _ us hl => match us, hl with | [_, _], _ => rfl⟩
  have M_po : ∀ (fm : Fam P w K mg base) (F : List (Str × Addr)) (ns : List Str), ns.length < 64 → MCal P w K mg base (He.ga K "Notes") "_put_off" (1) ["self", "op", "parts"] (spPutOff fm (He.ga K "Notes") F ns) := fun fm F ns hn => ⟨oN.c, _, f_Notes__put_off, ok_put_off F_Notes__put_off bi nc, He.meth_ok (c.d.fact 110 (f := .meth "Notes" "_put_off") rfl), FunD.bindsN (ps := ["self", "op", "parts"]) F_Notes__put_off fun _ _ _ _ _ _ us hl => match us, hl with | [_, _, _], _ => rfl⟩
  have M_met : ∀ (fm : Fam P w K mg base) (F : List (Str × Addr)) (ns : List Str), ns.length < 64 → MCal P w K mg base (He.ga K "Notes") "_met" (2) ["self"] (spMet fm (He.ga K "Notes") F ns) := fun fm F ns hn => ⟨oN.c, _, f_Notes__met, ok_met F_Notes__met bi nc bi.b_sorted hn (M_now fm F ns hn), He.meth_ok (c.d.fact 117 (f := .meth "Notes" "_met") rfl), FunD.bindsN (ps := ["self"]) F_Notes__met fun _ _ _ _ _ _ us hl => match us, hl with | [_], _ => rfl⟩
  have M_waiting : ∀ (fm : Fam P w K mg base) (F : List (Str × Addr)) (ns : List Str), ns.length < 64 → MCal P w K mg base (He.ga K "Notes") "waiting" (3) ["self"] (spWaiting fm (He.ga K "Notes") F ns) := fun fm F ns hn => ⟨oN.c, _, f_Notes_waiting, ok_waiting F_Notes_waiting bi nc bi.b_sorted (M_met fm F ns hn) M_nu, He.meth_ok (c.d.fact 109 (f := .meth "Notes" "waiting") rfl), FunD.bindsN (ps := ["self"]) F_Notes_waiting fun _ _ _ _ _ _ us hl => match us, hl with | [_], _ => rfl⟩
  obtain ⟨cc_sNInit, ca_sNInit, fd_sNInit, FC_sNInit, hp_sNInit, hk_sNInit, hc_sNInit⟩ := fnS_ok (x := "Notes") (z := "/claim/cut.py") (cs.def_ 0 (d := sd_sNInit) rfl) (cell_sNInit c) (keep_sNInit c)
  have S_sNInit : SupC P K (He.fAd K sd_sNInit.at_) ca_sNInit (He.ga K "Notes") (He.ga K "Notes") (He.ma K (He.ga K "Holding") "__init__") "__init__" := supS_ok (y := "Holding") (sup_sNInit c) hfile htop hp_sNInit ⟨_, rfl, rfl⟩ hk_sNInit hc_sNInit
  obtain ⟨cc_sNDo, ca_sNDo, fd_sNDo, FC_sNDo, hp_sNDo, hk_sNDo, hc_sNDo⟩ := fnS_ok (x := "Notes") (z := "/claim/cut.py") (cs.def_ 1 (d := sd_sNDo) rfl) (cell_sNDo c) (keep_sNDo c)
  have S_sNDo : SupC P K (He.fAd K sd_sNDo.at_) ca_sNDo (He.ga K "Notes") (He.ga K "Notes") (He.ma K (He.ga K "Holding") "do") "do" := supS_ok (y := "Holding") (sup_sNDo c) hfile htop hp_sNDo ⟨_, rfl, rfl⟩ hk_sNDo hc_sNDo
  have bHI : Binds K f_Holding___init__ ["self", "functions"] [] := FunD.bindsN (ps := ["self", "functions"]) F_Holding___init__ fun _ _ _ _ _ _ us hl => match us, hl with | [_, _], _ => rfl
  have bHD : Binds K f_Holding_do ["self", "row"] [] := FunD.bindsN (ps := ["self", "row"]) F_Holding_do fun _ _ _ _ _ _ us hl => match us, hl with | [_, _], _ => rfl
  have bNI : Binds K fd_sNInit ["self", "functions"] [] := FunC_bindsN (ps := ["self", "functions"]) FC_sNInit fun _ _ _ _ _ us hl => match us, hl with | [_, _], _ => rfl
  have bND : Binds K fd_sNDo ["self", "row"] [] := FunC_bindsN (ps := ["self", "row"]) FC_sNDo fun _ _ _ _ _ us hl => match us, hl with | [_, _], _ => rfl
  have nm : NtM P w K mg base (He.ga K "Notes") := ⟨fun fm F ns hn => ⟨oN.c, _, fd_sNDo, ok_ndo FC_sNDo bi nc writing S_sNDo bsuper (ok_hdo F_Holding_do bi nc asking (Nat.le_of_lt (Nat.lt_trans hn (by decide))) (M_work fm F ns hn) (M_held fm F ns hn) (M_po fm F ns hn)) bHD, He.meth_ok (c.d.fact 107 (f := .meth "Notes" "do") rfl), bND⟩, M_waiting, ⟨_, fd_sNInit, oN.m, ok_ninit FC_sNInit nc S_sNInit bsuper (ok_hinit F_Holding___init__ nc) bHI, bNI, glo X G c 59 _ rfl⟩⟩
  have M_place : MCal P w K mg base (He.ga K "Run") "place" (1) ["self"] (spRPlace P w K mg base (He.ga K "Program") (He.ga K "Notes") (He.ga K "Run")) := ⟨oR.c, _, f_Run_place, ok_rplace F_Run_place rc, He.meth_ok (c.d.fact 119 (f := .meth "Run" "place") rfl), FunD.bindsN (ps := ["self"]) F_Run_place fun _ _ _ _ _ _ us hl => match us, hl with | [_], _ => rfl⟩
  have M_rwaiting : MCal P w K mg base (He.ga K "Run") "waiting" (4) ["self"] (spRWaiting P w K mg base (He.ga K "Program") (He.ga K "Notes") (He.ga K "Run")) := ⟨oR.c, _, f_Run_waiting, ok_rwaiting F_Run_waiting rc nm, He.meth_ok (c.d.fact 120 (f := .meth "Run" "waiting") rfl), FunD.bindsN (ps := ["self"]) F_Run_waiting fun _ _ _ _ _ _ us hl => match us, hl with | [_], _ => rfl⟩
  have M_step : MCal P w K mg base (He.ga K "Run") "step" (27) ["self", "which"] (spRStep P w K mg base (He.ga K "Program") (He.ga K "Notes") (He.ga K "Run")) := ⟨oR.c, _, f_Run_step, ok_rstep (CE := He.ga K "NoPlace") F_Run_step rc nm C_place_behind C_row_at, He.meth_ok (c.d.fact 118 (f := .meth "Run" "step") rfl), FunD.bindsN (ps := ["self", "which"]) F_Run_step fun _ _ _ _ _ _ us hl => match us, hl with | [_, _], _ => rfl⟩
  have rm : RnM P w K mg base (He.ga K "Program") (He.ga K "Notes") (He.ga K "Run") := ⟨_, f_Run___init__, oR.m, ok_rinit F_Run___init__ rc nm C_ops C_functions_of, FunD.bindsN (ps := ["self", "program", "functions"]) F_Run___init__ fun _ _ _ _ _ _ us hl => match us, hl with | [_, _, _], _ => rfl, glo X G c 60 _ rfl⟩
  have C_go_to : Cal P w K mg base "go_to" 28 ["run", "place"] (spGoTo P w K mg base (He.ga K "Program") (He.ga K "Notes") (He.ga K "Run")) := ⟨_, f_go_to, ok_go_to (CE := He.ga K "NoPlace") F_go_to rc C_nexts M_step M_place, glo X G c 26 _ rfl, F_go_to.kp, FunD.bindsN (ps := ["run", "place"]) F_go_to fun _ _ _ _ _ _ us hl => match us, hl with | [_, _], _ => rfl⟩
  have C_told : Cal P w K mg base "told" 29 ["program", "way", "functions"] (spTold P w K mg base (He.ga K "Program") (He.ga K "Notes") (He.ga K "Run")) := ⟨_, f_told, ok_told F_told C_is_way rm C_go_to, glo X G c 25 _ rfl, F_told.kp, FunD.bindsN (ps := ["program", "way", "functions"]) F_told fun _ _ _ _ _ _ us hl => match us, hl with | [_, _, _], _ => rfl⟩
  have C__law_hand : Cal P w K mg base "_law_hand" 1 ["_law_script"] (spHand K) := ⟨_, f__law_hand, ok_hand F__law_hand bi, glo X G c 27 _ rfl, F__law_hand.kp, FunD.bindsN (ps := ["_law_script"]) F__law_hand fun _ _ _ _ _ _ us hl => match us, hl with | [_], _ => rfl⟩
  have C__law_draw : Cal P w K mg base "_law_draw" 1 ["_law_hand_here", "_law_many"] (spDraw) := ⟨_, f__law_draw, ok_draw F__law_draw bi, glo X G c 28 _ rfl, F__law_draw.kp, FunD.bindsN (ps := ["_law_hand_here", "_law_many"]) F__law_draw fun _ _ _ _ _ _ us hl => match us, hl with | [_, _], _ => rfl⟩
  have C__law_any : Cal P w K mg base "_law_any" 2 ["_law_hand_here", "_law_things"] (spAny K) := ⟨_, f__law_any, ok_any F__law_any bi C__law_draw, glo X G c 29 _ rfl, F__law_any.kp, FunD.bindsN (ps := ["_law_hand_here", "_law_things"]) F__law_any fun _ _ _ _ _ _ us hl => match us, hl with | [_, _], _ => rfl⟩
  have C0__law_size : Cal P w K mg base "_law_size" 1 ["_law_block"] (spLSize K 0) := ⟨_, f__law_size, ok_lsize0 _, glo X G c 30 _ rfl, F__law_size.kp, FunD.bindsN (ps := ["_law_block"]) F__law_size fun _ _ _ _ _ _ us hl => match us, hl with | [_], _ => rfl⟩
  have C1__law_size : Cal P w K mg base "_law_size" 2 ["_law_block"] (spLSize K 1) := ⟨_, f__law_size, ok_lsize1 F__law_size bi C0__law_size, glo X G c 30 _ rfl, F__law_size.kp, FunD.bindsN (ps := ["_law_block"]) F__law_size fun _ _ _ _ _ _ us hl => match us, hl with | [_], _ => rfl⟩
  have C2__law_size : Cal P w K mg base "_law_size" 3 ["_law_block"] (spLSize K 2) := ⟨_, f__law_size, ok_lsize1 F__law_size bi C1__law_size, glo X G c 30 _ rfl, F__law_size.kp, FunD.bindsN (ps := ["_law_block"]) F__law_size fun _ _ _ _ _ _ us hl => match us, hl with | [_], _ => rfl⟩
  have C3__law_size : Cal P w K mg base "_law_size" 4 ["_law_block"] (spLSize K 3) := ⟨_, f__law_size, ok_lsize1 F__law_size bi C2__law_size, glo X G c 30 _ rfl, F__law_size.kp, FunD.bindsN (ps := ["_law_block"]) F__law_size fun _ _ _ _ _ _ us hl => match us, hl with | [_], _ => rfl⟩
  have C4__law_size : Cal P w K mg base "_law_size" 5 ["_law_block"] (spLSize K 4) := ⟨_, f__law_size, ok_lsize1 F__law_size bi C3__law_size, glo X G c 30 _ rfl, F__law_size.kp, FunD.bindsN (ps := ["_law_block"]) F__law_size fun _ _ _ _ _ _ us hl => match us, hl with | [_], _ => rfl⟩
  have C0__law_lay : Cal P w K mg base "_law_lay" 5 ["_law_table_here", "_law_block", "_law_behind"] (spLLay K 0) := ⟨_, f__law_lay, ok_llay0 _, glo X G c 31 _ rfl, F__law_lay.kp, FunD.bindsN (ps := ["_law_table_here", "_law_block", "_law_behind"]) F__law_lay fun _ _ _ _ _ _ us hl => match us, hl with | [_, _, _], _ => rfl⟩
  have C1__law_lay : Cal P w K mg base "_law_lay" 6 ["_law_table_here", "_law_block", "_law_behind"] (spLLay K 1) := ⟨_, f__law_lay, ok_llay1 F__law_lay bi C4__law_size C0__law_lay, glo X G c 31 _ rfl, F__law_lay.kp, FunD.bindsN (ps := ["_law_table_here", "_law_block", "_law_behind"]) F__law_lay fun _ _ _ _ _ _ us hl => match us, hl with | [_, _, _], _ => rfl⟩
  have C2__law_lay : Cal P w K mg base "_law_lay" 7 ["_law_table_here", "_law_block", "_law_behind"] (spLLay K 2) := ⟨_, f__law_lay, ok_llay1 F__law_lay bi C4__law_size C1__law_lay, glo X G c 31 _ rfl, F__law_lay.kp, FunD.bindsN (ps := ["_law_table_here", "_law_block", "_law_behind"]) F__law_lay fun _ _ _ _ _ _ us hl => match us, hl with | [_, _, _], _ => rfl⟩
  have C3__law_lay : Cal P w K mg base "_law_lay" 8 ["_law_table_here", "_law_block", "_law_behind"] (spLLay K 3) := ⟨_, f__law_lay, ok_llay1 F__law_lay bi C4__law_size C2__law_lay, glo X G c 31 _ rfl, F__law_lay.kp, FunD.bindsN (ps := ["_law_table_here", "_law_block", "_law_behind"]) F__law_lay fun _ _ _ _ _ _ us hl => match us, hl with | [_, _, _], _ => rfl⟩
  have C4__law_lay : Cal P w K mg base "_law_lay" 9 ["_law_table_here", "_law_block", "_law_behind"] (spLLay K 4) := ⟨_, f__law_lay, ok_llay1 F__law_lay bi C4__law_size C3__law_lay, glo X G c 31 _ rfl, F__law_lay.kp, FunD.bindsN (ps := ["_law_table_here", "_law_block", "_law_behind"]) F__law_lay fun _ _ _ _ _ _ us hl => match us, hl with | [_, _, _], _ => rfl⟩
  have C__law_table : Cal P w K mg base "_law_table" 10 ["_law_block"] (spLTable K) := ⟨_, f__law_table, ok_ltable F__law_table bi C4__law_size C4__law_lay, glo X G c 32 _ rfl, F__law_table.kp, FunD.bindsN (ps := ["_law_block"]) F__law_table fun _ _ _ _ _ _ us hl => match us, hl with | [_], _ => rfl⟩
  have C__law_names : Cal P w K mg base "_law_names" 1 ["_law_table_here"] (spLNames K) := ⟨_, f__law_names, ok_lnames F__law_names bi, glo X G c 33 _ rfl, F__law_names.kp, FunD.bindsN (ps := ["_law_table_here"]) F__law_names fun _ _ _ _ _ _ us hl => match us, hl with | [_], _ => rfl⟩
  have C__law_words : Cal P w K mg base "_law_words" 2 ["_law_hand_here", "_law_many"] (spLWords) := ⟨_, f__law_words, ok_lwords F__law_words bi C__law_draw, glo X G c 34 _ rfl, F__law_words.kp, FunD.bindsN (ps := ["_law_hand_here", "_law_many"]) F__law_words fun _ _ _ _ _ _ us hl => match us, hl with | [_, _], _ => rfl⟩
  have C__law_plain : Cal P w K mg base "_law_plain" 3 ["_law_hand_here", "_law_menu", "_law_ops"] (spLPlain K) := ⟨_, f__law_plain, ok_lplain F__law_plain bi C__law_draw C__law_any, glo X G c 35 _ rfl, F__law_plain.kp, FunD.bindsN (ps := ["_law_hand_here", "_law_menu", "_law_ops"]) F__law_plain fun _ _ _ _ _ _ us hl => match us, hl with | [_, _, _], _ => rfl⟩
  have C0__law_inner : Cal P w K mg base "_law_inner" 3 ["_law_hand_here", "_law_menu", "_law_ops", "_law_deep"] (spLInner K 0) := ⟨_, f__law_inner, ok_linner0 _, glo X G c 36 _ rfl, F__law_inner.kp, FunD.bindsN (ps := ["_law_hand_here", "_law_menu", "_law_ops", "_law_deep"]) F__law_inner fun _ _ _ _ _ _ us hl => match us, hl with | [_, _, _, _], _ => rfl⟩
  have C1__law_inner : Cal P w K mg base "_law_inner" 4 ["_law_hand_here", "_law_menu", "_law_ops", "_law_deep"] (spLInner K 1) := ⟨_, f__law_inner, ok_linner1 F__law_inner bi C__law_draw C__law_plain C0__law_inner, glo X G c 36 _ rfl, F__law_inner.kp, FunD.bindsN (ps := ["_law_hand_here", "_law_menu", "_law_ops", "_law_deep"]) F__law_inner fun _ _ _ _ _ _ us hl => match us, hl with | [_, _, _, _], _ => rfl⟩
  have C2__law_inner : Cal P w K mg base "_law_inner" 5 ["_law_hand_here", "_law_menu", "_law_ops", "_law_deep"] (spLInner K 2) := ⟨_, f__law_inner, ok_linner1 F__law_inner bi C__law_draw C__law_plain C1__law_inner, glo X G c 36 _ rfl, F__law_inner.kp, FunD.bindsN (ps := ["_law_hand_here", "_law_menu", "_law_ops", "_law_deep"]) F__law_inner fun _ _ _ _ _ _ us hl => match us, hl with | [_, _, _, _], _ => rfl⟩
  have C__law_wide : Cal P w K mg base "_law_wide" 6 ["_law_hand_here"] (spLWide K) := ⟨_, f__law_wide, ok_lwide F__law_wide bi C__law_draw C__law_words C__law_plain C1__law_inner C2__law_inner C4__law_size, glo X G c 37 _ rfl, F__law_wide.kp, FunD.bindsN (ps := ["_law_hand_here"]) F__law_wide fun _ _ _ _ _ _ us hl => match us, hl with | [_], _ => rfl⟩
  have C__law_led : Cal P w K mg base "_law_led" 3 ["_law_hand_here", "_law_table_here", "_law_place", "_law_many"] (spLLed K) := ⟨_, f__law_led, ok_lled F__law_led bi C__law_any, glo X G c 38 _ rfl, F__law_led.kp, FunD.bindsN (ps := ["_law_hand_here", "_law_table_here", "_law_place", "_law_many"]) F__law_led fun _ _ _ _ _ _ us hl => match us, hl with | [_, _, _, _], _ => rfl⟩
  have C__law_bits : Cal P w K mg base "_law_bits" 1 ["_law_names_here"] (spLBits) := ⟨_, f__law_bits, ok_lbits F__law_bits bi, glo X G c 39 _ rfl, F__law_bits.kp, FunD.bindsN (ps := ["_law_names_here"]) F__law_bits fun _ _ _ _ _ _ us hl => match us, hl with | [_], _ => rfl⟩
  have C__law_lot : Cal P w K mg base "_law_lot" 1 ["_law_names_here", "_law_mask"] (spLLot K) := ⟨_, f__law_lot, ok_llot F__law_lot bi, glo X G c 40 _ rfl, F__law_lot.kp, FunD.bindsN (ps := ["_law_names_here", "_law_mask"]) F__law_lot fun _ _ _ _ _ _ us hl => match us, hl with | [_, _], _ => rfl⟩
  have C__law_moved : Cal P w K mg base "_law_moved" 1 ["_law_row", "_law_mask", "_law_bits_here"] (spLMoved K) := ⟨_, f__law_moved, ok_lmoved F__law_moved bi, glo X G c 41 _ rfl, F__law_moved.kp, FunD.bindsN (ps := ["_law_row", "_law_mask", "_law_bits_here"]) F__law_moved fun _ _ _ _ _ _ us hl => match us, hl with | [_, _, _], _ => rfl⟩
  have C__law_along : Cal P w K mg base "_law_along" 2 ["_law_table_here", "_law_bits_here", "_law_way", "_law_mask"] (spLAlong K) := ⟨_, f__law_along, ok_lalong F__law_along bi C__law_moved, glo X G c 42 _ rfl, F__law_along.kp, FunD.bindsN (ps := ["_law_table_here", "_law_bits_here", "_law_way", "_law_mask"]) F__law_along fun _ _ _ _ _ _ us hl => match us, hl with | [_, _, _, _], _ => rfl⟩
  have CC : Callee P w K mg base 1 (He.ga K "_law_count") (fun _ => True) (spLCount K) := callee_def (ok_lcount F__law_count bi) (FunD.bindsN (ps := ["_law_row"]) F__law_count fun _ _ _ _ _ _ us hl => match us, hl with | [_], _ => rfl) (fnIn_kp F__law_count)
  have C__law_functions : Cal P w K mg base "_law_functions" 1 ["_law_table_here"] (spLFuns K (He.ga K "_law_count")) := ⟨_, f__law_functions, ok_lfuns F__law_functions (glo X G c 43 _ rfl), glo X G c 44 _ rfl, F__law_functions.kp, FunD.bindsN (ps := ["_law_table_here"]) F__law_functions fun _ _ _ _ _ _ us hl => match us, hl with | [_], _ => rfl⟩
  have C__law_beneath : Cal P w K mg base "_law_beneath" 1 ["_law_account", "_law_name"] (spLBeneath K) := ⟨_, f__law_beneath, ok_lbeneath F__law_beneath bi, glo X G c 46 _ rfl, F__law_beneath.kp, FunD.bindsN (ps := ["_law_account", "_law_name"]) F__law_beneath fun _ _ _ _ _ _ us hl => match us, hl with | [_, _], _ => rfl⟩
  have C__law_do : Cal P w K mg base "_law_do" 2 ["_law_account", "_law_row"] (spLDo K) := ⟨_, f__law_do, ok_ldo F__law_do bi C__law_beneath, glo X G c 45 _ rfl, F__law_do.kp, FunD.bindsN (ps := ["_law_account", "_law_row"]) F__law_do fun _ _ _ _ _ _ us hl => match us, hl with | [_, _], _ => rfl⟩
  have C__law_held : Cal P w K mg base "_law_held" 2 ["_law_account", "_law_names_here"] (spLHeld K) := ⟨_, f__law_held, ok_lheld F__law_held C__law_beneath, glo X G c 47 _ rfl, F__law_held.kp, FunD.bindsN (ps := ["_law_account", "_law_names_here"]) F__law_held fun _ _ _ _ _ _ us hl => match us, hl with | [_, _], _ => rfl⟩
  have C__law_is_followed : Cal P w K mg base "_law_is_followed" 30 ["_law_program", "_law_table_here", "_law_names_here", "_law_way", "_law_cut"] (spLFoll K (He.ga K "Program")) := ⟨_, f__law_is_followed, ok_lfoll (CN := He.ga K "Notes") (CR := He.ga K "Run") F__law_is_followed bi bi.b_sorted CC C__law_do C__law_held C__law_functions C_told M_rwaiting C_holders, glo X G c 48 _ rfl, F__law_is_followed.kp, FunD.bindsN (ps := ["_law_program", "_law_table_here", "_law_names_here", "_law_way", "_law_cut"]) F__law_is_followed fun _ _ _ _ _ _ us hl => match us, hl with | [_, _, _, _, _], _ => rfl⟩
  exact ok_law (C := He.ga K "Program") F_law {
    bi := bi
    g := gP
    hand := C__law_hand
    draw := C__law_draw
    wide := C__law_wide
    table := C__law_table
    names := C__law_names
    bits := C__law_bits
    lot := C__law_lot
    led := C__law_led
    along := C__law_along
    foll := C__law_is_followed
    holders := C_holders
    make := ⟨_, f_init, oP.m, ok_init F_init bi pc C_bad_place C4_rows_of C_all_names B4, FunD.bindsN (ps := ["self", "block"]) F_init fun _ _ _ _ _ _ us hl => match us, hl with | [_, _], _ => rfl⟩ }
end K24
open PySem PySem.W PySem.Calls PyProof.Rows
theorem PySem.Challenge.cw_putoffpiles_k24_whole_holders_follow_eac_holds : PySem.Challenge.rw_putoffpiles_k24_whole_holders_follow_eac.Holds := by
  w_on; o_law
  refine HandSHeadRun.head_any (r := OpenLaw.row PySem.Challenge.rw_putoffpiles_k24_whole_holders_follow_eac) (q := view (OpenLaw.row PySem.Challenge.rw_putoffpiles_k24_whole_holders_follow_eac).prog [80]) (H := K24.hk) (ob := K24.ob) (M := 20000) (loose := K24.loose) (d := HandSHeadRun.topDef (OpenLaw.row PySem.Challenge.rw_putoffpiles_k24_whole_holders_follow_eac).prog 80) (kwd := []) K24.ob_eq
    (by kernel_rfl) (fun s => by kernel_rfl) K24.run (by kernel_rfl) (by kernel_rfl) (by kernel_rfl) (by rfl) (by first | assumption | decide +kernel) (by decide +kernel) ⟨rfl, rfl, rfl, rfl, rfl, by decide +kernel⟩ ?hw ?hc
  case hw => w_witness2
  case hc =>
    refine L2.walk_ofE (l := PySem.Challenge.rw_putoffpiles_k24_whole_holders_follow_eac) (n := 63) (k := 31) (x := "_law_script") (CX := L2.CX0) rfl (by decide) (by kernel_rfl) ⟨rfl, by decide, by decide⟩ ?F (fun _ _ _ _ z => z)
    intro w mg fa h Y G hmg0
    obtain ⟨K, KX, c⟩ := Y
    have hmg : mg ("law" : PySem.Str) = some (.ref fa) := by
      have e : (HandSHeadRun.topDef (OpenLaw.row PySem.Challenge.rw_putoffpiles_k24_whole_holders_follow_eac).prog 80).name = ("law" : PySem.Str) := by kernel_rfl
      rw [← e]
      exact hmg0
    obtain ⟨fd, hb, hF⟩ := K24.facts (P := (PySem.Challenge.rw_putoffpiles_k24_whole_holders_follow_eac).prog) (w := w) KX G (by kernel_rfl) (by kernel_rfl) hmg c
    exact ⟨K, fd, K24.spLaw K, KX, hb, fun H a ns hl _ hS => ⟨a, ns, rfl, hS, hl, fun _ => rfl⟩, hF⟩
