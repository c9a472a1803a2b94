import PyProof.Rows.All
import Wide.All
import OpenK.AllK
import Wide.FinOn
import PyProof.EqAt
import PyProof.EqKinds
import PyProof.TupleCall
import KE.KExcInit
import HandS.ForExc
import HandS.ExcField
import HandS.ExcInit
import HandS.ExcOwn
import HandS.ExcValue
import HandS.MakeKwOnly
import HandS.Set
import HandS.SetFor
import HandS.Strs
import HandS.ForMost
import HandS.IsInst
import HandS.Walk
import KE.GoesEnum
import HandS.Iter
import KE.KDictKeyed
import KE.KeyNested
import KE.KDictList
import HandS.DictComp
import HandS.RevRange
import HandS.HeadWalk
import KE.KStateDown
import Lean
import HandS.More
import HandS.Defaults
import HandS.Head0
import HandS.Head1
import HandS.Head2
import HandS.HeadEnd
import HandS.HeadHook1
import HandS.HeadHook2
import HandS.HeadHook3
import HandS.HeadHook4
import HandS.Deep
import HandS.TupAny
import HandS.Style
import HandS.Flow
import HandS.FStrTup
import PyProof.ReprRoads
import PySem.Challenge.RW_saymakers_k07_whole_single_steps_or_a_ro
set_option Elab.async false
set_option linter.all false
set_option maxRecDepth 100000
set_option maxHeartbeats 4000000
/-! Own errors over Exception: made, filled, raised, read. -/
namespace Say
open PySem PySem.Spec PyProof.Rows L2
/-! ### 1. what the written part says of such a class -/
abbrev bmE : List Value := [.type "Exception", .type "BaseException", .type "object"]
structure EC (K : PySem.W.Frag) (C : Addr) : Prop where
  ini : PySem.W.excInitIn K C bmE "Exception.__new__" = true
  ovr : PySem.W.excOver K C bmE = true
  sa : PySem.W.findIn K (.ref C) "__setattr__" = some (some (.builtin "object.__setattr__"))
  xf : XfC K C
  ty : PySem.W.typeIn K (.ref C) = some (.type "type")
  kp : PySem.W.keepIn K (.ref C) = true
def saB (K : PySem.W.Frag) (C : Addr) : Bool :=
  decide (PySem.W.findIn K (.ref C) "__setattr__" = some (some (.builtin "object.__setattr__")))
def ecB (K : PySem.W.Frag) (C : Addr) : Bool :=
  (PySem.W.excInitIn K C bmE "Exception.__new__" && PySem.W.excOver K C bmE) && (saB K C && xfB K C) &&
    (decide (PySem.W.typeIn K (.ref C) = some (.type "type")) && PySem.W.keepIn K (.ref C))
theorem ecB_ok {K : PySem.W.Frag} {C : Addr} (h : ecB K C = true) : EC K C := by
  simp only [ecB, Bool.and_eq_true] at h
  obtain ⟨⟨⟨h1, h2⟩, h3, h4⟩, h5, h6⟩ := h
  exact ⟨h1, h2, of_decide_eq_true h3, xfB_ok h4, of_decide_eq_true h5, h6⟩
/-- no class on the way has this name of its own -/
def noB (K : PySem.W.Frag) (C : Addr) (f : Str) : Bool := decide (PySem.W.findIn K (.ref C) f = some none)
theorem noB_ok {K : PySem.W.Frag} {C : Addr} {f : Str} (h : noB K C f = true) : PySem.W.findIn K (.ref C) f = some none := of_decide_eq_true h

/-! ### 2. self.f = v in an __init__ -/
section
variable {prog : Program} {w : World} {A : Around} {R : Result → Shared → Prop} {K : PySem.W.Frag} {C x : Addr} {f : Str} {tk : Tok} {v : Value}
variable {hp : Heap} {g : Array GenState} {d : Drawn} {t : Nat} {os : OsState}
open PySem.W Builtin.ObjectAttr in
theorem raw_first {t0 : Addr} (T : EC K C) (X : K.In hp) (hx : hp.get? x = some (excObj C t0 none .none)) (hno : findIn K (.ref C) f = some none)
    (hq : ∀ h' tk' dx, (∀ b o, b ≠ x → hp.get? b = some o → h'.get? b = some o) → hp.objs.size ≤ dx → dx ≠ x →
      h'.get? x = some (excObj C t0 (some dx) .none) → h'.Ns1 dx (fun y => if y = f then some v else none) → R (.ok (.ret .none)) ⟨h', g, d, tk', os⟩) :
    codeAny (model prog w) A (.call (.builtin "object.__setattr__") ⟨[.ref x, .str f tk, v], []⟩) R ⟨hp, g, d, t, os⟩ := by
  have xs : x ≠ hp.objs.size := Nat.ne_of_lt (Heap.lt_size hx)
  refine osa_openX (od := none) PySem.F.store_Exception X ⟨hx, rfl, rfl, trivial⟩ T.ovr (NoAttr.taker hno) fun b => ?_
  obtain ⟨cd, hc, hd⟩ := any_some T.xf.hdC
  refine wpAny_bind (wpAny_pure (wpAny_bind (instanceDict_exc hx (looks_clsIn X hc) hd ?_)))
  show wpAny _ _ (storeInDict hp.objs.size (.str f tk) f v) _ _ _
  have old : ∀ b o, b ≠ x → hp.get? b = some o → ((hp.push (dictOf [] 0)).update x fun o => { o with dict := some hp.objs.size }).get? b = some o :=
    fun b o nb q => (Heap.get?_update_ne _ _ _ _ nb).trans (Heap.get?_push_of_some _ q)
  have me : ((hp.push (dictOf [] 0)).update x fun o => { o with dict := some hp.objs.size }).get? x = some (excObj C t0 (some hp.objs.size) .none) :=
    Heap.get?_update_self _ (Heap.get?_push_of_some _ hx) rfl
  refine HandSPX.store_in_new ⟨_, #[], _, (Heap.get?_update_ne _ _ _ _ xs.symm).trans (Heap.get?_push_at rfl rfl), rfl, fun e he => absurd he (by simp), fun _ => rfl⟩ fun h' tk' hn sb => ?_
  exact hq h' tk' _ (fun b o nb q => (sb.2 b (Nat.ne_of_lt (Heap.lt_size q))).trans (old b o nb q)) (Nat.le_refl _) xs.symm ((sb.2 x xs).trans me) hn
open PySem.W Builtin.ObjectAttr in
theorem raw_more {t0 dx : Addr} {m0 : Str → Option Value} {nl : List Str} (T : EC K C) (X : K.In hp) (hx : hp.get? x = some (excObj C t0 (some dx) .none)) (hno : findIn K (.ref C) f = some none)
    (hn : hp.Ns1 dx m0) (hw : Within m0 nl) (hz : nl.length ≤ 1000)
    (hq : ∀ h' tk', (∀ b o, b ≠ dx → hp.get? b = some o → h'.get? b = some o) → h'.Ns1 dx (fun y => if y = f then some v else m0 y) → R (.ok (.ret .none)) ⟨h', g, d, tk', os⟩) :
    codeAny (model prog w) A (.call (.builtin "object.__setattr__") ⟨[.ref x, .str f tk, v], []⟩) R ⟨hp, g, d, t, os⟩ := by
  obtain ⟨oD, _, _, hD, _, _⟩ := hn.count hw
  refine osa_openX (od := some oD) PySem.F.store_Exception X ⟨hx, rfl, rfl, hD⟩ T.ovr (NoAttr.taker hno) fun b => ?_
  obtain ⟨cd, hc, hd⟩ := any_some T.xf.hdC
  refine wpAny_bind (wpAny_pure (wpAny_bind (wpAny_bind (wpAny_loadPart hx (wpAny_bind ((looks_clsIn X hc).here ?_))))))
  rw [hd]
  refine wpAny_pure (a := some dx) ?_
  exact PySem.OEX.store_in_old hn hw hz fun h' tk' hn' sb => hq h' tk' (fun b o nb q => (sb.2 b nb).trans q) hn'
end
section
variable {X : Cx} {pins : List (Addr × Obj)} {σ : L2.St} {H : Hp} {s : Shared} {a C dx : Addr} {f : Str} {y : V} {u : Value} {fs : List (Str × V)}
variable {Q : Unit → Shared → Prop} {E : Value → Shared → Prop} {A : Around}
theorem set_first (T : EC X.K C) (I : Inv X pins σ H s) (e : H a = some (exo a C none)) (hno : PySem.W.findIn X.K (.ref C) f = some none) (ry : RelV y u)
    (h : ∀ dx s', H dx = none → dx ≠ a → Inv X pins σ (upd (upd H a (exo a C (some dx))) dx (exd dx [(f, y)])) s' → Q () s') :
    wpAny (model X.prog X.w) A (setAttr (.ref a) f u) Q E s := by
  obtain ⟨t1, ho⟩ := exo_at I.hok e
  obtain ⟨hp, g, d, t, os⟩ := s
  refine PySem.W.set_plain I.kIn (ox := PySem.W.excObj C t1 none .none) (od := none) ⟨ho, rfl, rfl, trivial⟩ T.sa ?_
  refine raw_first T I.kIn ho hno fun h' tk' dx k dn dne hx hn => ?_
  have nd : H dx = none := I.hok.fresh dn
  -- the heap behind the store, but for the new dict: there the exception has been written; then the dict is laid
  obtain ⟨G, g1, g2⟩ := restrict h' fun b => decide (b ≠ dx)
  have gk : ∀ b, b ≠ dx → G.get? b = h'.get? b := fun b nb => g1 b (decide_eq_true nb)
  have gd : G.get? dx = none := g2 dx (by simp)
  have ga : G.get? a = some (PySem.W.excObj C t1 (some dx) .none) := (gk a dne.symm).trans hx
  have J : Inv X pins σ (upd H a (exo a C (some dx))) ⟨G, g, d, tk', os⟩ :=
    I.write (t' := tk') (x := a) (e := a) (by rw [e]; exact True.intro) (.inl rfl)
      (fun b o nb q => (gk b (Nat.ne_of_lt (Nat.lt_of_lt_of_le (Heap.lt_size q) dn))).trans (k b o nb q)) ⟨_, ga⟩ (exo_ok ga)
  have below : ∀ b o, G.get? b = some o → h'.get? b = some o := fun b o q => by
    by_cases nb : b = dx
    · rw [nb, gd] at q
      cases q
    · exact (gk b nb).symm.trans q
  exact h dx _ nd dne (J.laidN (t' := tk') below gd (by rw [upd_ne dne]; exact nd) (exd_ok hn (relO_put (fs := []) ry fun _ => True.intro)))
theorem set_more (T : EC X.K C) (I : Inv X pins σ H s) (e : H a = some (exo a C (some dx))) (ed : H dx = some (exd dx fs)) (hl : fs.length ≤ 900)
    (hno : PySem.W.findIn X.K (.ref C) f = some none) (ry : RelV y u) (h : ∀ s', Inv X pins σ (upd H dx (exd dx ((f, y) :: fs))) s' → Q () s') :
    wpAny (model X.prog X.w) A (setAttr (.ref a) f u) Q E s := by
  obtain ⟨t1, ho⟩ := exo_at I.hok e
  obtain ⟨mA, hns, rel⟩ := exd_at I.hok ed
  have hw := within_of rel
  obtain ⟨hp, g, d, t, os⟩ := s
  obtain ⟨oD, _, _, hD, _, _⟩ := hns.count hw
  refine PySem.W.set_plain I.kIn (ox := PySem.W.excObj C t1 (some dx) .none) (od := some oD) ⟨ho, rfl, rfl, hD⟩ T.sa ?_
  refine raw_more T I.kIn ho hno hns hw (by rw [List.length_map]; omega) fun h' tk' k hn => ?_
  have there : ∃ o, h'.get? dx = some o := by
    obtain ⟨o, _, _, q, _⟩ := hn
    exact ⟨o, q⟩
  exact h _ (I.write (t' := tk') (x := dx) (e := dx) (by rw [ed]; exact True.intro) (.inl rfl) k there (exd_ok hn (relO_put ry rel)))
end
/-- self.f = e, self an error that is being made -/
def tEst (K : PySem.W.Frag) (f : Str) (to te : TE) : TS := fun D σ H => te σ H fun y H1 => to σ H1 fun x H2 =>
  ∃ a C : Addr, x = .ref a ∧ EC K C ∧ PySem.W.findIn K (.ref C) f = some none ∧
    ((H2 a = some (exo a C none) ∧ ∀ dx, H2 dx = none → dx ≠ a → D.nx σ (upd (upd H2 a (exo a C (some dx))) dx (exd dx [(f, y)]))) ∨
      ∃ (dx : Addr) (fs : List (Str × V)), H2 a = some (exo a C (some dx)) ∧ H2 dx = some (exd dx fs) ∧ fs.length ≤ 900 ∧ D.nx σ (upd H2 dx (exd dx ((f, y) :: fs))))
theorem ps_est {X : Cx} {o e : Expr} {to te : TE} {f : Str} {p' pos : Pos} (ho : PE X o to) (he : PE X e te)
    (hs : swapsWith e (some (.Attribute o f p')) pos.line X.env = pure false := by rfl) : PS X (.Assign [.Attribute o f p'] e pos) (tEst X.K f to te) := by
  refine ⟨fun pins s σ H D I h => plainObj_wpAny_Assign_Attribute (thn (he.run pins s σ H _ I h) fun v s1 hh => ?_) hs⟩
  obtain ⟨y, H1, I1, r1, q1⟩ := hh
  refine thn (ho.run pins s1 σ H1 _ I1 q1) fun u s2 hh2 => ?_
  obtain ⟨x, H2, I2, r2, a, C, ex, T, hno, q⟩ := hh2
  subst ex
  obtain rfl : u = Value.ref a := r2
  rcases q with ⟨ea, q⟩ | ⟨dx, fs, ea, ed, hl, q⟩
  · exact set_first T I2 ea hno r1 fun dx s' n ne J => ⟨σ, _, J, q dx n ne⟩
  · exact set_more T I2 ea ed hl hno r1 fun s' J => ⟨σ, _, J, q⟩
end Say

set_option Elab.async false
set_option linter.all false
set_option maxRecDepth 100000
set_option maxHeartbeats 4000000
namespace Say
open PySem PySem.Spec PyProof.Rows L2
/-! ### 3. C(..), C's own __init__ keeping sp: raised, or held as a value -/
section
variable {X : Cx} {CX : CXT} {k : Nat} {C fI : Addr} {fd : FuncData} {ps : List Str} {sp : Sp} {ds : List Value} {dvs : List V}
variable {x : Str} {e : Expr} {es : List Expr} {ta : TA} {p pos : Pos}
/-- the class's __init__ -/
structure EI (K : PySem.W.Frag) (C fI : Addr) : Prop where
  at_ : PySem.W.findIn K (.ref C) "__init__" = some (some (.ref fI))
  fn : PySem.W.typeIn K (.ref fI) = some (.type "function")
theorem run_ex {pins : List (Addr × Obj)} {σ : L2.St} {H : Hp} {s : Shared} {us : List Value} {vs : List V} {P : Addr → Hp → Prop} {Qv : Value → Shared → Prop}
    (T : EC X.K C) (J : EI X.K C fI) (F : FnOk X.prog X.w X.K X.mg X.base CX k fI fd ps sp) (hr : Room (k + 1) X.A) (hb : Binds X.K fd ps ds) (hd : Vals dvs ds)
    (hx : Passes CX X (fun _ _ _ => False)) (I : Inv X pins σ H s) (r : Vals vs us) (hz : vs.length ≤ 1000)
    (hq : ∀ a, H a = none → sp (.ref a :: (vs ++ dvs)) (upd H a (exo a C none)) (fun v H2 => v = .non ∧ P a H2) (fun _ _ _ => False))
    (go : ∀ (hp2 : Heap) (a : Addr) (u : Value) (s' : Shared), (∀ b o, s.heap.get? b = some o → hp2.get? b = some o) → s.heap.objs.size ≤ a → H a = none →
      Inv X pins σ (upd H a (exo a C none)) { s with heap := hp2 } →
      CE X.stack X.prog X.w (upd H a (exo a C none)) { s with heap := hp2 } (fun v H2 => v = .non ∧ P a H2) u s' → u = .none ∧ Qv (.ref a) s') :
    wpAny (model X.prog X.w) X.A (call (.ref C) us) Qv X.xe s := by
  obtain ⟨nm, N, qn, bs, bm, hdct, sn, sub, ab, col, dd, k0, k1, k2, k3, k5, hC, hT⟩ := PySem.W.excInit_of I.kIn T.ini
  obtain ⟨hp, g, dr, tk, os⟩ := s
  have far : hp.objs.size ≤ hp.objs.size + 1 := Nat.le_succ _
  have hn : H (hp.objs.size + 1) = none := I.hok.fresh far
  have q := hq _ hn
  have kk : ∀ b o, hp.get? b = some o → ((hp.push (PySem.W.kdv_tup us)).push (PySem.HandSPX.excO C hp.objs.size)).get? b = some o :=
    fun b o z => Heap.get?_push_of_some _ (Heap.get?_push_of_some _ z)
  have here : ((hp.push (PySem.W.kdv_tup us)).push (PySem.HandSPX.excO C hp.objs.size)).get? (hp.objs.size + 1) = some (PySem.HandSPX.excO C hp.objs.size) := by heap_get
  have I2 : Inv X pins σ (upd H (hp.objs.size + 1) (exo (hp.objs.size + 1) C none)) ⟨(hp.push (PySem.W.kdv_tup us)).push (PySem.HandSPX.excO C hp.objs.size), g, dr, tk, os⟩ :=
    I.laid (t' := tk) kk far (exo_ok here)
  have r2 : Vals (V.ref (hp.objs.size + 1) :: (vs ++ dvs)) (Value.ref (hp.objs.size + 1) :: (us ++ ds)) := .cons rfl (r.append hd)
  have len : (Value.ref (hp.objs.size + 1) :: us ++ ds).length = ps.length := by
    have z := r2.length
    rw [F.len _ _ _ _ q] at z
    exact z.symm
  have few : us.length ≤ sizeLine := by
    rw [← Paired.length r, sizeLine_eq]
    omega
  refine wpAny_call (PySem.HandSPX.call_own PySem.F.excBase_Exception hT hC (PySem.W.looks_findIn I.kIn J.at_) (fun self => PySem.W.bind_fn I.kIn self J.fn) few
    (codeAny_mono (F.run _ X.stack _ _ ⟨Value.ref (hp.objs.size + 1) :: us, []⟩ (Value.ref (hp.objs.size + 1) :: (us ++ ds)) _ _ (fun _ _ _ => False)
      (hr.make C us []) (I2.env0.make C us []) (hb _ (Value.ref (hp.objs.size + 1) :: us) I2.kIn len) r2 q) fun rs s' z => ?_))
  cases rs with
  | error er => exact hx pins σ _ _ er s' I2 z
  | ok fl =>
    cases fl with
    | ret u => exact go _ _ u s' kk far hn I2 z
    | _ => exact z.elim
/-- raise C(e, ..): what is asked; the error's own dict stands behind it -/
def tMkE (C : Addr) (sp : Sp) (dvs : List V) (ta : TA) : L2.St → Hp → XK → Prop := fun σ H Q => ta σ H fun vs H1 => vs.length ≤ 1000 ∧
  ∀ a, H1 a = none → sp (.ref a :: (vs ++ dvs)) (upd H1 a (exo a C none))
    (fun v H2 => v = .non ∧ ∃ (d : Addr) (fs : List (Str × V)), H2 a = some (exo a C (some d)) ∧ H2 d = some (exd d fs) ∧ H1 d = none ∧ Q (.ref C) (some d) (upd (del H2 a) d (.xd fs)))
    (fun _ _ _ => False)
theorem pmk_e (T : EC X.K C) (J : EI X.K C fI) (F : FnOk X.prog X.w X.K X.mg X.base CX k fI fd ps sp) (hr : Room (k + 1) X.A) (hb : Binds X.K fd ps ds) (hd : Vals dvs ds)
    (hx : Passes CX X (fun _ _ _ => False)) (hm : X.mg x = some (.ref C)) (ha : PA X (e :: es) ta) (hg : Gl X x := by rfl)
    (hdb : (x == ("__debug__" : Str)) = false := by decide) (he : starEach (e :: es) X.env = (false, eval e X.env) :: starEach es X.env := by rfl)
    (hpl : (backTo pos (starEach es X.env)).any (·.1) = false := by rfl) : PMk X (.Call (.Name x p) (e :: es) [] pos) (tMkE C sp dvs ta) := by
  intro pins s σ H Q I h
  refine wpAny_Call_Name_kw (ld_glob I hg hm ?_ hdb)
  refine PySem.W.callWith_K (h₀ := X.base) I.ok.mod.kin T.kp (thn (ha.run pos pins s σ H _ I h) fun us s1 hh => ?_) he hpl
  obtain ⟨vs, H1, I1, r1, hz, q⟩ := hh
  refine ⟨I1.kIn, ?_⟩
  obtain ⟨hp, g, dr, tk, os⟩ := s1
  refine run_ex T J F hr hb hd hx I1 r1 hz q fun hp2 a u s' kk far hn I2 z => ?_
  obtain ⟨v, H2, os2, bare2, un2, hok2, rv, ev, d, fs, ea, ed, hd1, q2⟩ := z
  subst ev
  obtain ⟨h2, g2, d2, t2, o2⟩ := s'
  exact ⟨rv, mk_end (raises_own T.xf.exC T.ty) I1 far kk un2 hok2 os2 bare2 ea ed hd1 q2⟩
/-- C(e, ..) as a value -/
def tExv (C : Addr) (sp : Sp) (dvs : List V) (ta : TA) : TE := fun σ H Q => ta σ H fun vs H1 => vs.length ≤ 1000 ∧
  ∀ a, H1 a = none → sp (.ref a :: (vs ++ dvs)) (upd H1 a (exo a C none)) (fun v H2 => v = .non ∧ Q (.ref a) H2) (fun _ _ _ => False)
theorem pe_exv (T : EC X.K C) (J : EI X.K C fI) (F : FnOk X.prog X.w X.K X.mg X.base CX k fI fd ps sp) (hr : Room (k + 1) X.A) (hb : Binds X.K fd ps ds) (hd : Vals dvs ds)
    (hx : Passes CX X (fun _ _ _ => False)) (hm : X.mg x = some (.ref C)) (ha : PA X (e :: es) ta) (hg : Gl X x := by rfl)
    (hdb : (x == ("__debug__" : Str)) = false := by decide) (he : starEach (e :: es) X.env = (false, eval e X.env) :: starEach es X.env := by rfl)
    (hpl : (backTo pos (starEach es X.env)).any (·.1) = false := by rfl) : PE X (.Call (.Name x p) (e :: es) [] pos) (tExv C sp dvs ta) := by
  refine ⟨fun pins s σ H Q I h => ?_⟩
  refine wpAny_Call_Name_kw (ld_glob I hg hm ?_ hdb)
  refine PySem.W.callWith_K (h₀ := X.base) I.ok.mod.kin T.kp (thn (ha.run pos pins s σ H _ I h) fun us s1 hh => ?_) he hpl
  obtain ⟨vs, H1, I1, r1, hz, q⟩ := hh
  refine ⟨I1.kIn, ?_⟩
  refine run_ex T J F hr hb hd hx I1 r1 hz q fun hp2 a u s' kk far hn I2 z => ?_
  obtain ⟨v, H2, I3, rv, ev, q2⟩ := I2.after z
  subst ev
  exact ⟨rv, ⟨V.ref a, H2, I3, rfl, q2⟩⟩
/-- o.f, o an error that is held as a value -/
def tExf (K : PySem.W.Frag) (f : Str) (te : TE) : TE := fun σ H Q => te σ H fun x H1 => ∃ (a C dd : Addr) (fs : List (Str × V)) (v : V),
  x = .ref a ∧ XfC K C ∧ PySem.W.findIn K (.ref C) f = some none ∧ H1 a = some (exo a C (some dd)) ∧ H1 dd = some (exd dd fs) ∧ fs.lookup f = some v ∧ Q v H1
theorem pe_exf {f : Str} {te : TE} (he : PE X e te) (hb : attributeBase e f X.env (eval e X.env) = eval e X.env := by rfl) : PE X (.Attribute e f pos) (tExf X.K f te) := by
  refine ⟨fun pins s σ H Q I h => attr_of hb (thn (he.run pins s σ H _ I h) fun u s1 hh => ?_)⟩
  obtain ⟨x, H1, I1, rx, a, C, dd, fs, v, ex, T, hno, ea, ed, l, q⟩ := hh
  subst ex
  obtain rfl : u = Value.ref a := rx
  obtain ⟨t1, ho⟩ := exo_at I1.hok ea
  obtain ⟨mA, hns, rel⟩ := exd_at I1.hok ed
  obtain ⟨od, hD, hl⟩ := lookIn_ns hns
  obtain ⟨u, hu, ru⟩ := RelO.some_of (v := v) (o := mA f) (by rw [← l]; exact rel f)
  have W : PySem.W.InstAt s1.heap a (PySem.W.excObj C t1 (some dd) .none) C (some od) := ⟨ho, rfl, rfl, hD⟩
  exact HandSPX.exc_get I1.kIn W T.ga T.gg T.exC (PySem.W.findObj_own T.hdC hno rfl (by rw [hl, hu])) (handed_of ru) ⟨v, H1, I1.tok _, ru, q⟩
end
end Say

set_option Elab.async false
set_option linter.all false
set_option maxRecDepth 100000
set_option maxHeartbeats 4000000
namespace Say
open PySem PySem.Spec PyProof.Rows L2
/-! ### 4. raise C() of a class without an __init__ of its own -/
theorem pmk_e0 {X : Cx} {C : Addr} {x : Str} {p pos : Pos} (q : PySem.W.excIn X.K C bmE "Exception.__new__" = true) (T : EC X.K C) (hm : X.mg x = some (.ref C)) (hg : Gl X x := by rfl)
    (hdb : (x == ("__debug__" : Str)) = false := by decide) : PMk X (.Call (.Name x p) [] [] pos) (fun _ H Q => Q (.ref C) none H) := by
  intro pins s σ H Q I h
  refine wpAny_Call_Name_kw (ld_glob I hg hm ?_ hdb)
  refine PySem.W.callWith_K0 I.kIn T.kp ?_
  obtain ⟨bm, N, nm, qn, bs, hdct, sn, sub, ab, col, dd, k0, k1, k2, k3, k5, mN, hC, hN, hni, T2⟩ := exc_obj I.kIn q
  refine wpAny_call_exc_subT PySem.F.excBase_Exception T2 hC hN hni (fun h' e hm' => ?_) (Nat.zero_le _)
  exact mk_of I hm' (raises_own T.xf.exC T.ty) h (I.hok.gone hm'.new)

/-! ### 5. try with any number of clauses, each with a name or without -/
/-- a clause: its class, its name's slot, its suite -/
structure Cl where
  c : Value
  i : Option Nat
  ts : Addr → Value → Option Addr → TS
/-- behind a suite its name is unbound -/
def Cl.off (q : Cl) (σ : L2.St) : L2.St := match q.i with
  | none => σ
  | some i => σ.set i none
def Cl.on (q : Cl) (a : Addr) (σ : L2.St) : L2.St := match q.i with
  | none => σ
  | some i => σ.set i (some (.ref a))
def Cl.ends (q : Cl) (D : Ends) : Ends :=
  { nx := fun σ H => D.nx (q.off σ) H, rt := D.rt, bk := fun σ H => D.bk (q.off σ) H, ct := fun σ H => D.ct (q.off σ) H }
/-- what the clauses wish, from the first on -/
def wCl (K : PySem.W.Frag) (Wout : WX) (D : Ends) : List Cl → WX
  | [] => Wout
  | q :: r => fun cls d σ H => ∃ b, PySem.W.exmOne K cls q.c = some b ∧ (b = true → ∀ a, H a = none → q.ts a cls d (q.ends D) (q.on a σ) H) ∧ (b = false → wCl K Wout D r cls d σ H)
inductive ClOk (X : Cx) : List ExceptHandler → List Cl → Prop
  | nil : ClOk X [] []
  | bare {x : Str} {c : Value} {ts : Addr → Value → Option Addr → TS} {b₀ : Stmt} {suite : List Stmt} {np p2 : Pos} {hs : List ExceptHandler} {l : List Cl} (hc : Names X x c)
      (go : ∀ (a : Addr) (oe : Obj) (cls : Value) (d : Option Addr) (pn : List (Addr × Obj)), Zc cls d oe → (∃ vs, oe.data = .fields vs) →
        PSs (X.suite a ((a, oe) :: pn)) (b₀ :: suite) (ts a cls d)) (r : ClOk X hs l) :
      ClOk X (.ExceptHandler (some (.Name x np)) none (b₀ :: suite) p2 :: hs) (⟨c, none, ts⟩ :: l)
  | as {x n : Str} {i : Nat} {c : Value} {ts : Addr → Value → Option Addr → TS} {b₀ : Stmt} {suite : List Stmt} {np p2 : Pos} {hs : List ExceptHandler} {l : List Cl} (hc : Names X x c)
      (hi : X.N[i]? = some n) (hl : X.env.kindOf n = some .local)
      (go : ∀ (a : Addr) (oe : Obj) (cls : Value) (d : Option Addr) (pn : List (Addr × Obj)), Zc cls d oe → (∃ vs, oe.data = .fields vs) →
        PSs (X.suite a ((a, oe) :: pn)) (b₀ :: suite) (ts a cls d)) (r : ClOk X hs l) :
      ClOk X (.ExceptHandler (some (.Name x np)) (some n) (b₀ :: suite) p2 :: hs) (⟨c, some i, ts⟩ :: l)
section
variable {X : Cx} {pins : List (Addr × Obj)} {D : Ends} {Wout : WX}
/-- what is known of an error that has landed at this def's try -/
structure Landed (X : Cx) (pins : List (Addr × Obj)) (B : Heap) (a : Addr) (cls : Value) (d : Option Addr) (σ : L2.St) (H : Hp) (sI s0 : Shared) (h3 : Heap) : Prop where
  inv : Inv X pins σ H sI
  nb : ∀ b o, sI.heap.get? b = some o → b ∉ frs X.stack → B.get? b = some o
  up : sI.heap.UpToSlots h3
  fl : HandSPX.FlyingZ B (X.env :: X.outer) a (Zc cls d) h3
  na : H a = none
  os : s0.os = sI.os
  ag : AllBare s0.gens
variable {B : Heap} {a : Addr} {cls : Value} {d : Option Addr} {σ : L2.St} {H : Hp} {sI s0 : Shared} {h3 : Heap}
theorem Landed.apart (L : Landed X pins B a cls d σ H sI s0 h3) (hf : X.env.frame = some X.env.locals) {h : Heap} {o : Obj} {vs : Array Value} (ff : h.FunFrames B (X.env :: X.outer)) (e : h.get? a = some o) (dd : o.data = .fields vs) :
    a ≠ X.env.locals ∧ a ∉ X.fs := by
  have out : a ∉ frs (X.env :: X.outer) := fun hm => by
    obtain ⟨_, o2, e2, no⟩ := ff.mem hm
    rw [e] at e2
    cases e2
    exact no _ dd
  refine ⟨fun z => out (List.mem_filterMap.mpr ⟨X.env, List.mem_cons_self, by rw [hf, z]⟩), fun hm => ?_⟩
  obtain ⟨v, hv, q⟩ := List.mem_filterMap.mp hm
  exact out (List.mem_filterMap.mpr ⟨v, List.mem_cons_of_mem _ hv, q⟩)
/-- the suites' own ground -/
theorem Landed.ground (L : Landed X pins B a cls d σ H sI s0 h3) (hf : X.env.frame = some X.env.locals) :
    ∃ oe, Zc cls d oe ∧ (∃ vs, oe.data = .fields vs) ∧ h3.get? a = some oe ∧ X.K.In h3 ∧ Inv (X.suite a ((a, oe) :: (X.pn ++ pins))) [] σ H { s0 with heap := h3 } := by
  obtain ⟨oe, vs, he, hz, hd⟩ := L.fl.there
  obtain ⟨nL, nF⟩ := L.apart hf L.fl.2.2.1 he hd
  have J : Inv X pins σ H { s0 with heap := h3 } := L.inv.landed L.nb L.fl.1 L.up L.os L.ag
  exact ⟨oe, hz, ⟨vs, hd⟩, he, J.kIn, J.suite he hd L.na nL nF⟩
theorem clauses_run (hs : X.stack = X.env :: X.outer) (hf : X.env.frame = some X.env.locals) (hN : X.N.Nodup) (tk : Takes X Wout) (L : Landed X pins B a cls d σ H sI s0 h3)
    {hds : List ExceptHandler} {l : List Cl} (ok : ClOk X hds l) : wCl X.K Wout D l cls d σ H →
      wpAny (model X.prog X.w) X.A (handleBy (.ref a) X.env hds) (SP X pins D) X.xe { s0 with heap := h3 } := by
  obtain ⟨oe3, hz3, hd3, he3, K3, S3⟩ := L.ground hf
  have LT : PySem.W.Looks (model X.prog X.w) h3 (typeOf (.ref a)) cls := fun A Q E s k q => wpAny_typeOf_ref (k _ _ he3) (by rw [hz3.1]; exact q)
  -- the class's name is read with the error at hand
  have named : ∀ {x : Str} {c : Value} {np : Pos} {Q : Value → Shared → Prop} {E : Value → Shared → Prop}, Names X x c → Q c { s0 with heap := h3 } →
      wpAny (model X.prog X.w) (X.A.mark (some (.ref a))) (eval (.Name x np) X.env) Q E { s0 with heap := h3 } := fun {x c np Q E} hc q => by
    obtain ⟨hg, hdbg, hm | ⟨hm, hv, hnn⟩⟩ := hc
    · exact ld_glob (X := X.suite a ((a, oe3) :: (X.pn ++ pins))) S3 hg hm q hdbg
    · exact ld_blt (X := X.suite a ((a, oe3) :: (X.pn ++ pins))) S3 hg hm hv q hnn hdbg
  -- a suite starts where the error has landed once more
  have again : ∀ {h4 : Heap}, HandSPX.FlyingZ B (X.env :: X.outer) a (Zc cls d) h4 → h3.UpToSlots h4 → Landed X pins B a cls d σ H sI s0 h4 :=
    fun fl up => ⟨L.inv, L.nb, L.up.trans up, fl, L.na, L.os, L.ag⟩
  induction ok with
  | nil =>
    intro w
    refine wpAny_handleBy_nil ?_
    obtain ⟨_, _, _, oe, vs, T, oT, ts, he, hz, hd, h1, hr⟩ := id L.fl
    unfold PySem.passOn
    refine wpAny_bind (wpAny_field he hd h1 ?_)
    rw [if_neg (show ¬ ((Value.ref T == Value.none) = true) from by simp)]
    have fin : wpAny (model X.prog X.w) X.A (setFlight (.ref a) X.env.frame) (fun _ s4 => wpAny (model X.prog X.w) X.A (throw (.ref a) : Sem Flow) (SP X pins D) X.xe s4) X.xe { s0 with heap := h3 } := by
      rw [hf]
      refine HandSPX.setFlight_upZ L.fl fun h4 held up4 => wpAny_throw (tk _ _ ?_)
      exact ⟨a, B, sI, pins, σ, H, cls, d, rfl, L.inv, L.nb, L.up.trans up4, .inr (.inr (by rw [hs]; exact held)), L.na, L.os, L.ag, w⟩
    first
      | exact wpAny_bind (wpAny_pure (wpAny_bind fin))
      | exact wpAny_bind fin
  | @bare x c ts b₀ suite np p2 hs2 l2 hc go r ih =>
    rintro ⟨b, hb1, yes, no⟩
    refine wpAny_handleBy_cons (codeAny_handlers_test ?_) (by intro q; cases q)
    refine named hc ((PySem.W.exm_one (M := model X.prog X.w) K3 LT hb1).here ?_)
    cases b with
    | false => exact ih (no rfl)
    | true =>
      refine codeAny_handlers_suite (HandSPX.lands_againZ L.fl fun h4 fl4 up4 => ?_)
      obtain ⟨oe4, hz4, hd4, he4, _, S4⟩ := (again fl4 up4).ground hf
      refine wpAny_mono ((go a oe4 cls d _ hz4 hd4).run [] _ _ H _ S4 (yes rfl a L.na)) (fun f s6 e6 => ?_) (fun _ _ z => z.elim)
      cases f with
      | ret u =>
        obtain ⟨v6, σ6, H6, S6, r6, q6⟩ := e6
        exact ⟨_, _, _, S6.unsuite L.inv.ok, r6, q6⟩
      | _ =>
        obtain ⟨σ6, H6, S6, q6⟩ := e6
        exact ⟨_, _, S6.unsuite L.inv.ok, q6⟩
  | @as x n i c ts b₀ suite np p2 hs2 l2 hc hi hl go r ih =>
    rintro ⟨b, hb1, yes, no⟩
    refine wpAny_handleBy_cons (codeAny_handlers_test ?_) (by intro q; cases q)
    refine named hc ((PySem.W.exm_one (M := model X.prog X.w) K3 LT hb1).here ?_)
    cases b with
    | false => exact ih (no rfl)
    | true =>
      refine codeAny_handlers_suite_as (HandSPX.lands_againZ L.fl fun h4 fl4 up4 => ?_)
      obtain ⟨oe4, hz4, hd4, he4, _, S4⟩ := (again fl4 up4).ground hf
      refine store_ok (X := X.suite a ((a, oe4) :: (X.pn ++ pins))) (v := .ref a) S4 hN hi (.inl hl) rfl (fun s5 S5 => ?_) (.inr hl)
      refine wpAny_mono ((go a oe4 cls d _ hz4 hd4).run [] s5 _ H _ S5 (yes rfl a L.na)) (fun f s6 e6 => ?_) (fun _ _ z => z.elim)
      cases f with
      | ret u =>
        obtain ⟨v6, σ6, H6, S6, r6, q6⟩ := e6
        exact gone_ok (S6.unsuite L.inv.ok) hN hi hl fun s7 J7 => ⟨_, _, _, J7, r6, q6⟩
      | _ =>
        obtain ⟨σ6, H6, S6, q6⟩ := e6
        exact gone_ok (S6.unsuite L.inv.ok) hN hi hl fun s7 J7 => ⟨_, _, J7, q6⟩
end
end Say

set_option Elab.async false
set_option linter.all false
set_option maxRecDepth 100000
set_option maxHeartbeats 4000000
namespace Say
open PySem PySem.Spec PyProof.Rows L2
section
variable {X : Cx} {Wout : WX}
/-- the body is read under the wish of the clauses -/
def tTry (tb : WX → TS) (Wout : WX) (l : List Cl) (K : PySem.W.Frag) : TS := fun D σ H => tb (wCl K Wout D l) D σ H
theorem ps_try_cl {body : List Stmt} {h₀ : ExceptHandler} {hds : List ExceptHandler} {l : List Cl} {pos : Pos} {tb : WX → TS} (hs : X.stack = X.env :: X.outer) (hf : X.env.frame = some X.env.locals)
    (hN : X.N.Nodup) (tk : Takes X Wout) (ok : ClOk X (h₀ :: hds) l)
    (hb : ∀ (W : WX) (pn : List (Addr × Obj)) (xe : Value → Shared → Prop), Takes (X.tr pn xe) W → PassesOwn (model X.prog X.w) X.A X.env xe → PSs (X.tr pn xe) body (tb W)) :
    PS X (.Try body (h₀ :: hds) [] [] pos) (tTry tb Wout l X.K) := by
  refine ⟨fun pins s σ H D I h => wpAny_Try_except ?_⟩
  have fr : X.A.frames = some (X.env :: X.outer) := by rw [I.ok.frames, hs]
  -- what leaves the body is noted, and meets the clauses
  let met : Value → Shared → Prop := fun e s₁ => wpAny (model X.prog X.w) X.A (noteFrame e X.env) (fun _ s₂ =>
    wpAny (model X.prog X.w) X.A (setFlight e none) (fun _ s₃ => wpAny (model X.prog X.w) X.A (handleBy e X.env (h₀ :: hds)) (SP X pins D) X.xe s₃) X.xe s₂) X.xe s₁
  have takes : Takes (X.tr (X.pn ++ pins) met) (wCl X.K Wout D l) := fun u s' xx => by
    obtain ⟨a, B, sI, pins2, σ2, H2, cls, d, rfl, J, nb, up, sky, na, os, ag, w⟩ := xx
    show wpAny (model X.prog X.w) X.A (noteFrame (.ref a) X.env) _ _ _
    refine Sky.land Zc.steady fr hf (by rw [← hs]; exact sky) fun h3 fl3 up3 => ?_
    exact clauses_run hs hf hN tk ⟨J.ofTry I.ok, nb, up.trans up3, fl3, na, os, ag⟩ ok w
  refine wpAny_mono ((hb _ (X.pn ++ pins) met takes PassesOwn.looking).run [] s σ H D (I.toTry _) h) (fun f s1 e1 => ?_) (fun _ _ z => z)
  cases f with
  | next =>
    obtain ⟨σ1, H1, J, q⟩ := e1
    exact wpAny_execs_nil ⟨σ1, H1, J.ofTry I.ok, q⟩
  | ret u =>
    obtain ⟨v, σ1, H1, J, r, q⟩ := e1
    exact ⟨v, σ1, H1, J.ofTry I.ok, r, q⟩
  | _ =>
    obtain ⟨σ1, H1, J, q⟩ := e1
    exact ⟨σ1, H1, J.ofTry I.ok, q⟩
end
end Say

set_option Elab.async false
set_option linter.all false
set_option maxRecDepth 100000
set_option maxHeartbeats 4000000
namespace Say
open PySem PySem.Spec PyProof.Rows L2
section
variable {M : Model} {prog : Program} {w : World} {A : Around} {E : Value → Shared → Prop} {R : Result → Shared → Prop} {h : Heap} {g : Array GenState} {d : Drawn} {t : Nat} {os : OsState}
variable {nm q : Str} {C N : Addr} {bs bm : List Value} {hdct : Bool} {sn : List Str} {sub : List Value} {ab : Bool} {col : Option Bool} {dd : Option Addr} {k0 k1 k2 k3 k5 : Option Value}
abbrev ClsAt (h : Heap) (nm q : Str) (C N : Addr) (bs bm : List Value) (hdct : Bool) (sn : List Str) (sub : List Value) (ab : Bool) (col : Option Bool) (dd : Option Addr) (k0 k1 k2 k3 k5 : Option Value) : Prop :=
  h.get? C = some (excClassObj nm q C N bs bm hdct sn sub ab col dd k0 k1 k2 k3 k5 "Exception.__new__") ∧ ∀ X : String, bm.contains (.type X) = bmE.contains (.type X)
theorem kw_check {n : Str} {v : Value} {Q : Unit → Shared → Prop} (hC : ClsAt h nm q C N bs bm hdct sn sub ab col dd k0 k1 k2 k3 k5) (hq : Q () ⟨h, g, d, t, os⟩) :
    wpAny M A (checkBuiltinCall "Exception.__new__" ⟨[.ref C], [(n, v)]⟩) Q E ⟨h, g, d, t, os⟩ := by
  have F := PySem.F.excBase_Exception
  have has : (Value.ref C :: bm).contains (.type "Exception") = true := by rw [List.contains_cons, hC.2, F.hasB, Bool.or_true]
  have star := F.noStar
  have here := hC.1
  simp only [checkBuiltinCall, F.newKind, F.newSplit, F.newRow]
  repeat (first
    | refine wpAny_loadPart_at here ?_
    | (refine wpAny_isSubtype_exc here ?_; rw [has])
    | refine wpAny_staticBase_exc here ?_
    | refine wpAny_madeBy_exc here ?_
    | simp only [bne_self_eq_false, Bool.false_eq_true, if_false]
    | wp_step)
  exact hq
theorem kw_new {n : Str} {v : Value} (hC : ClsAt h nm q C N bs bm hdct sn sub ab col dd k0 k1 k2 k3 k5)
    (hq : R (.ok (.ret (.ref (h.objs.size + 1)))) ⟨(h.push (PySem.W.kdv_tup [])).push (PySem.HandSPX.excO C h.objs.size), g, d, t, os⟩) :
    codeAny (model prog w) A (.builtin "Exception.__new__" ⟨[.ref C], [(n, v)]⟩) R ⟨h, g, d, t, os⟩ := by
  have F := PySem.F.excBase_Exception
  have ends := F.ends
  have here := hC.1
  have isE : (Value.ref C :: bm).contains (.type "Exception") = true := by rw [List.contains_cons, hC.2, F.hasB, Bool.or_true]
  have noA : (Value.ref C :: bm).contains (.type "AttributeError") = false := by
    rw [List.contains_cons, hC.2, F.noAttr]
    rfl
  have noN : (Value.ref C :: bm).contains (.type "NameError") = false := by
    rw [List.contains_cons, hC.2, F.noName]
    rfl
  have fits : ([] : List Value).length ≤ sizeLine := Nat.zero_le _
  refine codeAny_builtinAt F.entry ?_
  unfold Builtin.«BaseException.__new__»
  refine PySem.wpAt_bind ?_
  show PySem.wpAt _ _ _ (stack >>= _) _ _ _
  refine PySem.wpAt_bind (PySem.wpAt_stack fun p below => PySem.wpAt_of_wpAny ?_)
  wp_walk
  refine PySem.wpAt_of_wpAny ?_
  rw [F.owner]
  repeat (first
    | with_reducible refine wpAny_madeHere_exc F.canon here ?_
    | with_reducible refine wpAny_loadPart_at here ?_
    | (with_reducible refine wpAny_isSubtype_exc here ?_; first | rw [isE] | rw [noA] | rw [noN])
    | wp_step)
  show R _ _
  rw [Heap.size_push]
  exact hq
theorem kw_type {fI : Addr} {n : Str} {v : Value} {Q : Fin → Shared → Prop} (hC : ClsAt h nm q C N bs bm hdct sn sub ab col dd k0 k1 k2 k3 k5)
    (hi : PySem.W.Looks (model prog w) h (typeLookup (.ref C) "__init__") (some (.ref fI))) (hb : ∀ self, PySem.W.Looks (model prog w) h (bindSpecial (.ref fI) self) (.ref fI, [self]))
    (hq : codeAny (model prog w) A (.call (.ref fI) ⟨[.ref (h.objs.size + 1)], [(n, v)]⟩)
      (fun r s' => match r with | .ok (.ret u) => u = .none ∧ Q (.done (.ret (.ref (h.objs.size + 1)))) s' | .ok _ => False | .error e => E e s')
      ⟨(h.push (PySem.W.kdv_tup [])).push (PySem.HandSPX.excO C h.objs.size), g, d, t, os⟩) :
    wpAny (model prog w) A (Builtin.«type.__call__» ⟨[.ref C], [(n, v)]⟩) Q E ⟨h, g, d, t, os⟩ := by
  have F := PySem.F.excBase_Exception
  have here := hC.1
  repeat (first
    | with_reducible refine wpAny_loadPart_at here ?_
    | with_reducible refine wpAny_madeBy_exc here ?_
    | wp_step)
  refine codeAny_call_builtin_code (Code.quiet_builtin _ F.quiet) (kw_check hC (kw_new hC ?_))
  show wpAny _ _ _ _ _ _
  have k : ∀ b o, h.get? b = some o → ((h.push (PySem.W.kdv_tup [])).push (PySem.HandSPX.excO C h.objs.size)).get? b = some o :=
    fun b o z => Heap.get?_push_of_some _ (Heap.get?_push_of_some _ z)
  have here2 := k _ _ here
  have made : ((h.push (PySem.W.kdv_tup [])).push (PySem.HandSPX.excO C h.objs.size)).get? (h.objs.size + 1) = some (PySem.HandSPX.excO C h.objs.size) := by heap_get
  have own : (Value.ref C :: bm).contains (.ref C) = true := by simp
  unfold isInstance
  repeat (first
    | with_reducible refine wpAny_loadPart_at made ?_
    | (with_reducible refine wpAny_isSubtype_exc here2 ?_; rw [own])
    | wp_step)
  show wpAny _ _ (typeLookup (.ref C) _) _ _ _
  refine (hi.keeps k).at ?_
  refine wpAny_holding (wpAny_bind (((hb (.ref (h.objs.size + 1))).keeps k).at ?_))
  refine wpAny_bind (wpAny_call (codeAny_mono hq fun r s' z => ?_))
  cases r with
  | error e => exact z
  | ok fl =>
    cases fl with
    | ret u =>
      obtain ⟨rfl, z⟩ := z
      first
        | exact wpAny_pure (wpAny_pure z)
        | (wp_walk; exact z)
    | _ => exact z.elim
theorem kw_call {fI : Addr} {n : Str} {v : Value} (hC : ClsAt h nm q C N bs bm hdct sn sub ab col dd k0 k1 k2 k3 k5)
    (hi : PySem.W.Looks (model prog w) h (typeLookup (.ref C) "__init__") (some (.ref fI))) (hb : ∀ self, PySem.W.Looks (model prog w) h (bindSpecial (.ref fI) self) (.ref fI, [self]))
    (hq : codeAny (model prog w) (A.under (.builtin "type.__call__" ⟨[.ref C], [(n, v)]⟩)) (.call (.ref fI) ⟨[.ref (h.objs.size + 1)], [(n, v)]⟩) (PySem.W.InitBack (h.objs.size + 1) R)
      ⟨(h.push (PySem.W.kdv_tup [])).push (PySem.HandSPX.excO C h.objs.size), g, d, t, os⟩) :
    codeAny (model prog w) A (.call (.ref C) ⟨[], [(n, v)]⟩) R ⟨h, g, d, t, os⟩ := by
  have f1 := tc_lookup
  have f2 := tc_bind (.ref C)
  have here := hC.1
  have isTy : (⟨h, g, d, t, os⟩ : Shared).TypeIs (.ref C) "type" := ⟨_, here, rfl⟩
  refine codeAny_of_tree ?_
  show wpAny _ _ (callAny (.ref C) _) _ _ _
  repeat (any_goals (first
    | assumption
    | with_reducible refine wpAny_loadPart_at here ?_
    | wp_step))
  refine ⟨rfl, ?_⟩
  refine codeAny_call_builtin_at (Code.quiet_builtin _ (by decide +kernel)) entry_typeCall (wpAny_check_type_call_sub here (kw_type hC hi hb ?_))
  refine codeAny_mono hq fun r s' z => ?_
  cases r with
  | error e => exact z
  | ok fl => cases fl <;> exact z
end
section
variable {X : Cx} {CX : CXT} {k : Nat} {C fI : Addr} {fd : FuncData} {ps : List Str} {sp : Sp} {x n : Str} {e : Expr} {te : TE} {p pos kpos : Pos}
theorem vals1x {a : Addr} {y : V} {u : Value} (h : RelV (.ref a) (.ref a)) (r : RelV y u) : Vals [.ref a, y] [.ref a, u] := .cons h (.cons r .nil)
/-- C(n=e) as a value -/
def tExk (C : Addr) (sp : Sp) (te : TE) : TE := fun σ H Q => te σ H fun y H1 =>
  ∀ a, H1 a = none → sp [.ref a, y] (upd H1 a (exo a C none)) (fun v H2 => v = .non ∧ Q (.ref a) H2) (fun _ _ _ => False)
theorem pe_exk (T : EC X.K C) (J : EI X.K C fI) (F : FnOk X.prog X.w X.K X.mg X.base CX k fI fd ps sp) (hr : Room (k + 1) X.A)
    (hb : ∀ (s : Shared) (v u : Value), X.K.In s.heap → BindsTo s fd ⟨[v], [(n, u)]⟩ (ps.zip [v, u])) (hx : Passes CX X (fun _ _ _ => False)) (hm : X.mg x = some (.ref C)) (he : PE X e te)
    (hg : Gl X x := by rfl) (hdb : (x == ("__debug__" : Str)) = false := by decide)
    (hall : (backToKw pos (keywordEach [⟨some n, e, kpos⟩] X.env)).all (·.1.isSome) = true := by rfl) (hks : (backToKw pos (keywordEach [⟨some n, e, kpos⟩] X.env)).filterMap (·.1) = [n] := by rfl)
    (hpl : ((backTo pos (starEach [] X.env)).any (·.1) || (backToKw pos (keywordEach [⟨some n, e, kpos⟩] X.env)).any (·.1.isNone)) = false := by rfl) :
    PE X (.Call (.Name x p) [] [⟨some n, e, kpos⟩] pos) (tExk C sp te) := by
  refine ⟨fun pins s σ H Q I h => ?_⟩
  refine wpAny_Call_Name_kw (ld_glob I hg hm ?_ hdb)
  refine PySem.W.callWith_KW0 (h₀ := X.base) I.ok.mod.kin T.kp hall ?_ hpl
  show wpAny _ _ (evalAll ((do let v ← eval e X.env; standAt pos; pure v) :: [])) _ _ s
  refine wpAny_evalAll_cons (wpAny_bind (thn (he.run pins s σ H _ I h) fun u s1 hh => wpAny_bind (wpAny_standAt (wpAny_pure (wpAny_evalAll_nil ?_)))))
  obtain ⟨y, H1, I1, ru, q⟩ := hh
  refine ⟨I1.kIn, ?_⟩
  rw [hks]
  show wpAny _ _ (call (.ref C) [] [(n, u)]) _ _ _
  obtain ⟨nm, N, qn, bs, bm, hdct, sn, sub, ab, col, dd, k0, k1, k2, k3, k5, hC, hT⟩ := PySem.W.excInit_of I1.kIn T.ini
  obtain ⟨hp, g, dr, tk, os⟩ := s1
  have far : hp.objs.size ≤ hp.objs.size + 1 := Nat.le_succ _
  have q2 := q _ (I1.hok.fresh far)
  have kk : ∀ b o, hp.get? b = some o → ((hp.push (PySem.W.kdv_tup [])).push (PySem.HandSPX.excO C hp.objs.size)).get? b = some o :=
    fun b o z => Heap.get?_push_of_some _ (Heap.get?_push_of_some _ z)
  have here : ((hp.push (PySem.W.kdv_tup [])).push (PySem.HandSPX.excO C hp.objs.size)).get? (hp.objs.size + 1) = some (PySem.HandSPX.excO C hp.objs.size) := by heap_get
  have I2 : Inv X pins σ (upd H1 (hp.objs.size + 1) (exo (hp.objs.size + 1) C none)) ⟨(hp.push (PySem.W.kdv_tup [])).push (PySem.HandSPX.excO C hp.objs.size), g, dr, tk, os⟩ :=
    I1.laid (t' := tk) kk far (exo_ok here)
  refine wpAny_call (kw_call ⟨hC, hT⟩ (PySem.W.looks_findIn I1.kIn J.at_) (fun self => PySem.W.bind_fn I1.kIn self J.fn)
    (codeAny_mono (F.run _ X.stack _ _ ⟨[Value.ref (hp.objs.size + 1)], [(n, u)]⟩ [Value.ref (hp.objs.size + 1), u] _ _ (fun _ _ _ => False)
      (hr.make C [] [(n, u)]) (I2.env0.make C [] [(n, u)]) (hb _ _ _ I2.kIn) (vals1x rfl ru) q2) fun rs s' z => ?_))
  cases rs with
  | error er => exact hx pins σ _ _ er s' I2 z
  | ok fl =>
    cases fl with
    | ret u2 =>
      obtain ⟨v, H2, I3, rv, ev, q3⟩ := I2.after z
      subst ev
      exact ⟨rv, ⟨V.ref (hp.objs.size + 1), H2, I3, rfl, q3⟩⟩
    | _ => exact z.elim
end
end Say

set_option Elab.async false
set_option linter.all false
set_option maxRecDepth 100000
set_option maxHeartbeats 4000000
/-! set(..) of a list or a tuple of whole numbers, as a value. -/
namespace Say
open PySem PySem.Spec PyProof.Rows L2
section
variable {P : Program} {w : World} {A : Around} {E : Value → Shared → Prop} {s : Shared}
/-- a set as it is new -/
abbrev set0 (w : World) : Obj := { cls := .type "set", dict := none, data := .set #[] 0 (.fresh 0 0 (!w.params.followText "set-order")) }
/-- what set(..) of these numbers leaves: the set, new; all that stood, stands -/
def SetLaid (w : World) (s : Shared) (ns : List Int) (s2 : Shared) : Prop := ∃ h' tk c, s2 = { s with heap := h', toks := tk } ∧
  SetR w h' s.heap.objs.size (fun j => decide (j ∈ ns)) c ∧ c ≤ ns.length ∧ ∀ b o, s.heap.get? b = some o → h'.get? b = some o
set_option maxHeartbeats 8000000 in
theorem call_set_listI {l : Addr} {items : Array Value} (ns : List Int) {Q : Value → Shared → Prop} (hh : A.handled = none) (hl : s.heap.IsList l items) (hit : IntsAre items.toList ns)
    (hb : ns.length + 1 < scanBound) (go : ∀ s2, SetLaid w s ns s2 → Q (.ref s.heap.objs.size) s2) : wpAny (model P w) A (call (.type "set") [.ref l]) Q E s := by
  have size : items.size = ns.length := by
    have q := IntsAre.length hit
    rw [Array.length_toList] at q
    exact q
  obtain ⟨c, tl, hmro⟩ := F.called_set.mro
  have m1 := F.called_set.made
  have m2 := F.called_set.sub
  refine wpAny_call (codeAny_of_tree ?_)
  show wpAny _ _ (callAny (.type "set") _) _ _ _
  refine wpAny_pure ⟨Code.quiet_builtin _ (by decide +kernel), codeAny_builtin F.entry_type_call ?_⟩
  rw [Around.under_plain (weight_type_call_type "set" [.ref l] []) rfl]
  have m3 := F.called_set.notType
  have m4 := F.called_set.canCreate
  have m5 := F.typeCall_set_1 (.ref l)
  repeat (any_goals (first
    | assumption
    | wp_step))
  refine codeAny_mono (code_set_led1 (.ref l) (E := E) (Q₁ := fun obj s₁ => obj = .ref s.heap.objs.size ∧ s₁ = { s with heap := s.heap.push (set0 w) }) ⟨rfl, rfl⟩) fun r s₁ hr => ?_
  cases r with
  | error e => exact hr
  | ok fl =>
    cases fl with
    | ret obj =>
      obtain ⟨rfl, rfl⟩ := hr
      have new : (s.heap.push (set0 w)).get? s.heap.objs.size = some (set0 w) := Heap.get?_push_size _ rfl
      have isSet : Shared.TypeIs { s with heap := s.heap.push (set0 w) } (.ref s.heap.objs.size) "set" := ⟨_, new, rfl⟩
      have i1 := F.called_set.init.lookup
      have i2 := F.called_set.init.bind (.ref s.heap.objs.size)
      repeat (any_goals (first
        | assumption
        | wp_step))
      refine codeAny_mono (codeAny_call_builtin (R := wants (fun r s₂ => r = .none ∧ SetLaid w s ns s₂) E) F.called_set.init.plain F.entry_set_init (check_set_init_1 isSet ?_)) fun r₂ s₂ hr₂ => ?_
      · obtain ⟨ol, hol, hcl, nl, hdl⟩ := hl
        obtain ⟨ocls, odict, odata, oslots⟩ := ol
        simp only at hcl hdl
        subst hcl; subst hdl
        have hol' : (s.heap.push (set0 w)).get? l = some { cls := .type "list", dict := odict, data := .seq items nl, slots := oslots } := Heap.get?_push_of_some _ hol
        have n1 := F.sub_list_set
        have n2 := F.sub_list_frozenset
        have n3 : (Value.type "list" == Value.type "dict") = false := by decide
        have hl1 : (s.heap.push (set0 w)).IsList l items := ⟨_, hol', rfl, nl, rfl⟩
        unfold Builtin.«set.__init__» noKeywords Builtin.Frozenset.updateFrom
        generalize hPI : pyIter = PI
        wp_walk
        subst hPI
        refine wpAny_pyIter_list hl1 ?_
        refine wpAny_bind (wpAny_runValue ?_)
        have lS : l < s.heap.objs.size := Heap.lt_size hol
        have h3 : A.in1.in1.in1.handled = none := by simp [hh]
        have z1 : (s.heap.push (set0 w)).objs.size = s.heap.objs.size + 1 := Heap.size_push ..
        have neI : l ≠ (s.heap.push (set0 w)).objs.size := by
          rw [z1]
          exact Nat.ne_of_lt (Nat.lt_succ_of_lt lS)
        have out : s.heap.objs.size ∉ [(s.heap.push (set0 w)).objs.size, l] := by
          rw [z1]
          simp only [List.mem_cons, List.mem_singleton, List.not_mem_nil, or_false, not_or]
          exact ⟨Nat.ne_of_lt (Nat.lt_succ_self _), Nat.ne_of_gt lS⟩
        have val : ∀ (i : Nat) (v : Value), items[i]? = some v → ∃ k t, ns[i]? = some k ∧ v = .int k t := fun i v hv => by
          have hi : i < ns.length := by
            rw [← size]
            exact (Array.getElem?_eq_some_iff.mp hv).1
          obtain ⟨t, e⟩ := PyProof.Rows.IntsAre.int_at hit i v (by rw [Array.getElem?_toList]; exact hv)
          refine ⟨ns[i], t, List.getElem?_eq_getElem hi, ?_⟩
          rw [e, List.getD_eq_getElem?_getD, List.getElem?_eq_getElem hi]
          rfl
        refine set_update_ints ((Walks.list h3 _ l neI items).toS) s.heap.objs.size
          out ns size hb val (items.size - 0) 0 _ (by omega) (Nat.zero_le _)
          ⟨⟨_, Heap.get?_push_size _ rfl, rfl, rfl⟩, (hl1.push _)⟩ ?start ?last
        case start => exact ⟨0, Nat.le_refl 0, setR_new_at (Heap.get?_push_of_some _ new)⟩
        case last =>
          intro s' c' hm hc' hS'
          obtain ⟨h', g2, d', tk', os'⟩ := s'
          have eg : g2 = s.gens := hm.gens
          have ed : d' = s.drawn := hm.drawn
          have eo : os' = s.os := hm.os
          subst eg; subst ed; subst eo
          show wpAny _ _ _ _ _ _
          refine wpAny_pure ?_
          show wpAny _ _ (ret Value.none) _ _ _
          rw [size] at hc'
          refine wpAny_pure ⟨rfl, h', tk', c', rfl, hS', hc', fun b o e => ?_⟩
          have b0 : b < s.heap.objs.size := Heap.lt_size e
          have b2 : b ≠ (s.heap.push (set0 w)).objs.size := by
            rw [z1]
            exact Nat.ne_of_lt (Nat.lt_succ_of_lt b0)
          refine hm.heap b o ?_ (Heap.get?_push_of_some _ (Heap.get?_push_of_some _ e))
          simp only [List.mem_cons, List.mem_singleton, List.not_mem_nil, or_false, not_or]
          exact ⟨Nat.ne_of_lt b0, b2⟩
      · cases r₂ with
        | error e => exact hr₂
        | ok fl₂ =>
          cases fl₂ with
          | ret r =>
            obtain ⟨rfl, L2⟩ := hr₂
            repeat (any_goals (first
              | assumption
              | wp_step))
            exact go _ L2
          | _ => exact hr₂.elim
    | _ => exact hr.elim
end
section
variable {X : Cx}
theorem ints_of_vals : ∀ {ns : List Int} {us : List Value}, Vals (ns.map V.int) us → IntsAre us ns
  | [], _, h => by
    cases h
    exact .nil
  | n :: ns, _, h => by
    cases h with
    | cons r t =>
      obtain ⟨k, rfl⟩ := r
      exact .cons n k (ints_of_vals t)
/-- set(xs), xs a list or a tuple of whole numbers -/
def rSetI (K : PySem.W.Frag) (w : World) : List V → Hp → VK → Prop := fun xs H Q => ∃ (l : Addr) (ns : List Int), xs = [.ref l] ∧ (SqL K H l (ns.map V.int) ∨ SqT K H l (ns.map V.int)) ∧ ns.length ≤ 4000 ∧
  ∀ p c, H p = none → c ≤ ns.length → Q (.ref p) (upd H p (SetO w p (fun j => decide (j ∈ ns)) c))
theorem cr_setI (hc : X.calm = true) : CallR X (.type "set") (rSetI X.K X.w) := by
  intro pins s σ H xs us Q I r h
  obtain ⟨l, ns, rfl, hq, hz, q⟩ := h
  rw [Vals.ref1 r]
  have few : ns.length + 1 < scanBound := by
    have e : scanBound = 4096 := rfl
    omega
  have fin : ∀ (h' : Heap) (tk c : Nat), SetR X.w h' s.heap.objs.size (fun j => decide (j ∈ ns)) c → c ≤ ns.length → (∀ b o, s.heap.get? b = some o → h'.get? b = some o) →
      EP X pins σ Q (.ref s.heap.objs.size) { s with heap := h', toks := tk } := fun h' tk c R c1 k =>
    ⟨.ref _, _, I.laid (t' := tk) k (Nat.le_refl _) (setO_new R), rfl, q _ c (I.hok.fresh (Nat.le_refl _)) c1⟩
  rcases hq with hq | hq
  · obtain ⟨its, rv, pl, _⟩ := I.list hq
    refine call_set_listI ns (I.ok.hd hc) pl.isList (ints_of_vals rv) few fun s2 hs => ?_
    obtain ⟨h', tk, c, rfl, R, c1, k⟩ := hs
    exact fin h' tk c R c1 k
  · obtain ⟨its, rv, pl, _⟩ := I.tuple hq
    exact call_set_tupI ns (I.ok.hd hc) pl (ints_of_vals rv) few fun h' tk c R c1 k => fin h' tk c R c1 k
end
end Say

set_option Elab.async false
set_option linter.all false
set_option maxRecDepth 100000
set_option maxHeartbeats 4000000
/-! What is known of data while the heap grows; a list or a tuple, whichever is handed in; isinstance of data. -/
namespace Say
open PySem PySem.Spec PyProof.Rows L2
/-! ### 1. what stays -/
/-- tuples and locked things stay as they are -/
structure Grow (H H' : Hp) : Prop where
  tup : ∀ a xs, H a = some (.tup xs) → H' a = some (.tup xs)
  frz : ∀ a o u, H a = some (.frz o u) → H' a = some (.frz o u)
theorem Grow.refl (H : Hp) : Grow H H := ⟨fun _ _ h => h, fun _ _ _ h => h⟩
theorem Grow.trans {H H1 H2 : Hp} (g : Grow H H1) (k : Grow H1 H2) : Grow H H2 := ⟨fun a xs h => k.tup a xs (g.tup a xs h), fun a o u h => k.frz a o u (g.frz a o u h)⟩
theorem grow_same {H H' : Hp} (s : Same H H') : Grow H H' := ⟨fun a xs h => s a _ h, fun a o u h => s a _ h⟩
theorem same_new {H : Hp} {p : Addr} {o : HO} (h : H p = none) : Same H (upd H p o) := fun b u q => by
  rw [upd_ne (ne_of_none q h)]
  exact q
theorem grow_new {H : Hp} {p : Addr} {o : HO} (h : H p = none) : Grow H (upd H p o) := grow_same (same_new h)
theorem grow_lst {H : Hp} {p : Addr} {xs : List V} {o : HO} (h : H p = some (.lst xs)) : Grow H (upd H p o) :=
  ⟨fun a ys q => by rw [upd_ne (ne_of q h (by intro z; cases z))]; exact q, fun a o2 u q => by rw [upd_ne (ne_of q h (by intro z; cases z))]; exact q⟩
theorem grow_dK {H : Hp} {p : Addr} {xs : List (Key × V)} {o : HO} (h : H p = some (.dK xs)) : Grow H (upd H p o) :=
  ⟨fun a ys q => by rw [upd_ne (ne_of q h (by intro z; cases z))]; exact q, fun a o2 u q => by rw [upd_ne (ne_of q h (by intro z; cases z))]; exact q⟩
theorem grow_sqT {K : PySem.W.Frag} {H H' : Hp} (g : Grow H H') {a : Addr} {xs : List V} (h : SqT K H a xs) : SqT K H' a xs := by
  rcases h with (h | ⟨o, h⟩) | h
  · exact .inl (.inl (g.tup _ _ h))
  · exact .inl (.inr ⟨o, g.frz _ _ _ h⟩)
  · exact .inr h
/-- as tracked, for a store at a new object: what stood, stands; and behind a change of our own list at p, all but that -/
theorem same_upd {H0 H : Hp} {p : Addr} {o : HO} (s : Same H0 H) (h : H0 p = none) : Same H0 (upd H p o) := fun b u q => by
  rw [upd_ne (ne_of_none q h)]
  exact s b u q
/-! ### 2. data -/
mutual
theorem dp_mono {K : PySem.W.Frag} {H H' : Hp} (s : Same H H') : ∀ (d : PyData) (v : V), Dp K H v d → Dp K H' v d
  | .none, _, h => by cases h; exact .non
  | .bool b, _, h => by cases h; exact .bl b
  | .int i, _, h => by cases h; exact .int i
  | .str x, _, h => by cases h; exact .str x
  | .list ds, _, h => by
    cases h with
    | lst hs ha => exact .lst (s.seq hs) (dpAll_mono s ds _ ha)
  | .tuple ds, _, h => by
    cases h with
    | tup hs ha => exact .tup (grow_sqT (grow_same s) hs) (dpAll_mono s ds _ ha)
  | .dict _, _, h => by cases h
theorem dpAll_mono {K : PySem.W.Frag} {H H' : Hp} (s : Same H H') : ∀ (ds : List PyData) (vs : List V), DpAll K H vs ds → DpAll K H' vs ds
  | [], _, h => by cases h; exact .nil
  | d :: ds, _, h => by
    cases h with
    | cons h1 h2 => exact .cons (dp_mono s d _ h1) (dpAll_mono s ds _ h2)
end
mutual
/-- no list within -/
def firm : PyData → Bool
  | .list _ => false
  | .tuple ds => firmAll ds
  | .dict _ => false
  | _ => true
def firmAll : List PyData → Bool
  | [] => true
  | d :: ds => firm d && firmAll ds
end
mutual
theorem dp_grow {K : PySem.W.Frag} {H H' : Hp} (g : Grow H H') : ∀ (d : PyData) (v : V), firm d = true → Dp K H v d → Dp K H' v d
  | .none, _, _, h => by cases h; exact .non
  | .bool b, _, _, h => by cases h; exact .bl b
  | .int i, _, _, h => by cases h; exact .int i
  | .str x, _, _, h => by cases h; exact .str x
  | .list ds, _, f, _ => by simp only [firm] at f; cases f
  | .tuple ds, _, f, h => by
    cases h with
    | tup hs ha => exact .tup (grow_sqT g hs) (dpAll_grow g ds _ (by simpa only [firm] using f) ha)
  | .dict _, _, _, h => by cases h
theorem dpAll_grow {K : PySem.W.Frag} {H H' : Hp} (g : Grow H H') : ∀ (ds : List PyData) (vs : List V), firmAll ds = true → DpAll K H vs ds → DpAll K H' vs ds
  | [], _, _, h => by cases h; exact .nil
  | d :: ds, _, f, h => by
    simp only [firmAll, Bool.and_eq_true] at f
    cases h with
    | cons h1 h2 => exact .cons (dp_grow g d _ f.1 h1) (dpAll_grow g ds _ f.2 h2)
end
theorem dpAll_len {K : PySem.W.Frag} {H : Hp} : ∀ {vs : List V} {ds : List PyData}, DpAll K H vs ds → vs.length = ds.length
  | _, _, .nil => rfl
  | _, _, .cons _ t => by rw [List.length_cons, List.length_cons, dpAll_len t]
theorem dpAll_get {K : PySem.W.Frag} {H : Hp} : ∀ {vs : List V} {ds : List PyData} {i : Nat} {v : V}, DpAll K H vs ds → vs[i]? = some v → ∃ d, ds[i]? = some d ∧ Dp K H v d
  | _, _, _, _, .nil, e => by simp at e
  | _, _, 0, _, .cons h _, e => by
    simp only [List.getElem?_cons_zero, Option.some.injEq] at e
    subst e
    exact ⟨_, rfl, h⟩
  | _, _, i + 1, _, .cons _ t, e => by
    simp only [List.getElem?_cons_succ] at e ⊢
    exact dpAll_get t e
theorem dpAll_at {K : PySem.W.Frag} {H : Hp} : ∀ {vs : List V} {ds : List PyData} {i : Nat} {d : PyData}, DpAll K H vs ds → ds[i]? = some d → ∃ v, vs[i]? = some v ∧ Dp K H v d
  | _, _, _, _, .nil, e => by simp at e
  | _, _, 0, _, .cons h _, e => by
    simp only [List.getElem?_cons_zero, Option.some.injEq] at e
    subst e
    exact ⟨_, rfl, h⟩
  | _, _, i + 1, _, .cons _ t, e => by
    simp only [List.getElem?_cons_succ] at e ⊢
    exact dpAll_at t e
theorem dpAll_app {K : PySem.W.Frag} {H : Hp} : ∀ {vs ws : List V} {ds es : List PyData}, DpAll K H vs ds → DpAll K H ws es → DpAll K H (vs ++ ws) (ds ++ es)
  | _, _, _, _, .nil, t => t
  | _, _, _, _, .cons h r, t => .cons h (dpAll_app r t)
theorem dp_ints {K : PySem.W.Frag} {H : Hp} : ∀ {vs : List V} {ns : List Int}, DpAll K H vs (ns.map PyData.int) → vs = ns.map V.int
  | _, [], h => by cases h; rfl
  | _, n :: ns, h => by
    cases h with
    | cons h1 h2 =>
      cases h1
      rw [List.map_cons, dp_ints h2]
theorem ints_dp {K : PySem.W.Frag} {H : Hp} : ∀ (ns : List Int), DpAll K H (ns.map V.int) (ns.map PyData.int)
  | [] => .nil
  | n :: ns => .cons (.int n) (ints_dp ns)
/-! ### 3. the kind of data -/
def kind : PyData → String
  | .none => "NoneType"
  | .bool _ => "bool"
  | .int _ => "int"
  | .str _ => "str"
  | .list _ => "list"
  | .tuple _ => "tuple"
  | .dict _ => "dict"
theorem kind_of {K : PySem.W.Frag} {H : Hp} {v : V} {d : PyData} (h : Dp K H v d) : TyX K H v (.type (kind d)) := by
  cases h with
  | non => exact .base .non
  | bl b => exact .base (.bl b)
  | int i => exact .base (.int i)
  | str x => exact .base (.str x)
  | lst hs _ =>
    rcases hs with (h | ⟨o, h⟩) | ⟨o, its, n, h1, h2, _⟩
    · exact .base (.lst h)
    · exact .base (.frz h)
    · exact .kList h1 h2
  | tup hs _ =>
    rcases hs with (h | ⟨o, h⟩) | ⟨o, its, n, h1, h2, _⟩
    · exact .base (.tup h)
    · exact .fTuple h
    · exact .kTuple h1 h2
/-- isinstance(x, T) of data: T a built-in class that the list names -/
theorem isi_data {K : PySem.W.Frag} {H : Hp} {v : V} {d : PyData} {T : String} {Q : VK} {b : Bool} (h : Dp K H v d) (e : ∀ k ∈ ["NoneType", "bool", "int", "str", "list", "tuple"], k = kind d → PySem.W.kitOne K (.type k) (.type T) = some b)
    (q : Q (.bl b) H) : rIsi K [v, .ty T] H Q := by
  refine ⟨v, .ty T, _, .type T, b, rfl, .ty T, kind_of h, e _ ?_ rfl, q⟩
  cases h <;> simp [kind]
/-! ### 4. a list or a tuple -/
def Sq (K : PySem.W.Frag) (H : Hp) (a : Addr) (xs : List V) : Prop := SqL K H a xs ∨ SqT K H a xs
theorem same_sq {K : PySem.W.Frag} {H H' : Hp} {a : Addr} {xs : List V} (s : Same H H') (h : Sq K H a xs) : Sq K H' a xs := h.elim (fun z => .inl (s.seq z)) fun z => .inr (grow_sqT (grow_same s) z)
def iSq (K : PySem.W.Frag) (tl : TE) : TI := fun σ H R => tl σ H fun x H1 => ∃ a, x = .ref a ∧ (((∃ xs, SqL K H1 a xs) ∧ R (Itl K a) H1) ∨ ((∃ xs, SqT K H1 a xs) ∧ R (Itt K a) H1))
theorem pi_sq {X : Cx} {tg l : Expr} {tl : TE} (hl : PE X l tl) : PI X tg l (iSq X.K tl) := by
  refine ⟨fun pins s σ H R I h => thn (hl.run pins s σ H _ I h) fun v s1 z => ?_⟩
  obtain ⟨x, H1, I1, r1, a, e, q⟩ := z
  subst e
  cases r1
  have ok : ∀ {J : It} {tn : Nat → Heap → Prop} {o : Obj}, Turn X.prog X.w X.K tg J [s1.heap.objs.size] s1.heap.objs.size tn → tn 0 (s1.heap.push o) → R J H1 →
      PIE X pins σ tg R (.ref s1.heap.objs.size) { s1 with heap := s1.heap.push o } := fun {J tn o} T t0 r =>
    ⟨_, _, _, _, H1, rfl, I1.kept (t' := s1.toks) fun b u y => Heap.get?_push_of_some _ y, T, t0, fun b hb => by
      have e : b = s1.heap.objs.size := by simpa using hb
      subst e
      exact I1.fpOk (Nat.le_refl _) (I1.hok.fresh (Nat.le_refl _)), r⟩
  rcases q with ⟨⟨xs, hq⟩, q⟩ | ⟨⟨xs, hq⟩, q⟩
  · obtain ⟨its, rv, p, hz⟩ := I1.list hq
    exact wpAny_pyIter_list p.isList (ok (turn_list a _) ⟨_, Heap.get?_push_size _ rfl, rfl, rfl⟩ q)
  · obtain ⟨its, rv, p, hz⟩ := I1.tuple hq
    exact wpAny_pyIter_tuple (show s1.heap.IsTuple a its.toArray from p) (ok (turn_tuple a _) ⟨_, Heap.get?_push_size _ rfl, rfl, rfl⟩ q)
def rIxS2 (K : PySem.W.Frag) : R2 := fun x y H Q => rIxL K x y H Q ∨ rIxT K x y H Q
theorem ix_sq {X : Cx} : IxR X (rIxS2 X.K) := IxR.or ix_list ix_tup
theorem ix_at {K : PySem.W.Frag} {H : Hp} {a : Addr} {xs : List V} {i : Int} {v : V} {Q : VK} (h : Sq K H a xs) (e : atI xs i = some v) (q : Q v H) : rIxS2 K (.ref a) (.int i) H Q :=
  h.elim (fun z => .inl ⟨a, xs, i, v, rfl, rfl, z, e, q⟩) fun z => .inr ⟨a, xs, i, v, rfl, rfl, z, e, q⟩
/-- a for over either -/
theorem for_sq {K : PySem.W.Frag} {a : Addr} {xs : List V} {g : TG} {tb : TS} {D : Ends} {σ : L2.St} {H : Hp} (Pv : Nat → L2.St → Hp → Prop) (hq : Sq K H a xs) (h0 : Pv 0 σ H)
    (hl : ∀ i σ H', i ≤ xs.length → Pv i σ H' → (SqL K H a xs → SqL K H' a xs) ∧ (SqT K H a xs → SqT K H' a xs))
    (hs : ∀ i x σ H', xs[i]? = some x → Pv i σ H' → g x σ H' fun σ2 H2 => tb { D with nx := Pv (i + 1), ct := Pv (i + 1), bk := D.nx } σ2 H2) (hd : ∀ σ H', Pv xs.length σ H' → D.nx σ H') :
    (((∃ xs, SqL K H a xs) ∧ ∃ W : Nat → Nat → L2.St → Hp → Prop, (∃ m, W 0 m σ H) ∧ ∀ i m σ H, W i m σ H →
      ((Itl K a).stop i H ∧ D.nx σ H) ∨ ((Itl K a).go i H ∧ ∃ N : L2.St → Hp → Prop, (∀ σ' H', N σ' H' → ∃ m', m' < m ∧ W (i + 1) m' σ' H') ∧ ∀ x H', (Itl K a).yld i H x H' → g x σ H' fun σ2 H2 => tb { D with nx := N, ct := N, bk := D.nx } σ2 H2)) ∨
    ((∃ xs, SqT K H a xs) ∧ ∃ W : Nat → Nat → L2.St → Hp → Prop, (∃ m, W 0 m σ H) ∧ ∀ i m σ H, W i m σ H →
      ((Itt K a).stop i H ∧ D.nx σ H) ∨ ((Itt K a).go i H ∧ ∃ N : L2.St → Hp → Prop, (∀ σ' H', N σ' H' → ∃ m', m' < m ∧ W (i + 1) m' σ' H') ∧ ∀ x H', (Itt K a).yld i H x H' → g x σ H' fun σ2 H2 => tb { D with nx := N, ct := N, bk := D.nx } σ2 H2))) := by
  rcases hq with hq | hq
  · refine .inl ⟨⟨xs, hq⟩, for_it (walk_list (K := K) (a := a) (xs := xs)) Pv h0 (fun i σ H' hi p => (hl i σ H' hi p).1 hq) (fun i x σ H' H2 hi p y => ?_) hd⟩
    obtain ⟨rfl, y⟩ := y
    exact hs i x σ H2 y p
  · refine .inr ⟨⟨xs, hq⟩, for_it (walk_tup (K := K) (a := a) (xs := xs)) Pv h0 (fun i σ H' hi p => (hl i σ H' hi p).2 hq) (fun i x σ H' H2 hi p y => ?_) hd⟩
    obtain ⟨rfl, y⟩ := y
    exact hs i x σ H2 y p
end Say

set_option Elab.async false
set_option linter.all false
set_option maxRecDepth 100000
set_option maxHeartbeats 4000000
namespace Say
open PySem PySem.Spec PyProof.Rows L2
/-! ### isinstance(e, T) of data, T a built-in class -/
def isD (T : String) (d : PyData) : Bool := (kitB (kind d) T).getD false
theorem kit_there : (["NoneType", "bool", "int", "str", "list", "tuple"].all fun k => ["int", "bool", "str", "tuple", "list"].all fun T => (kitB k T).isSome) = true := by decide +kernel
theorem isi_any {K : PySem.W.Frag} {H : Hp} {v : V} {d : PyData} {T : String} {Q : VK} (h : Dp K H v d) (hT : T ∈ ["int", "bool", "str", "tuple", "list"]) (q : Q (.bl (isD T d)) H) : rIsi K [v, .ty T] H Q := by
  refine isi_data h (fun k hk e => kit_ty ?_) q
  have z := List.all_eq_true.mp (List.all_eq_true.mp kit_there k hk) T hT
  subst e
  unfold isD
  cases y : kitB (kind d) T with
  | none =>
    rw [y] at z
    cases z
  | some b => rfl
theorem isD_int (d : PyData) : isD "int" d = (match d with | .int _ | .bool _ => true | _ => false) := by
  cases d
  · show (kitB "NoneType" "int").getD false = false; decide +kernel
  · show (kitB "bool" "int").getD false = true; decide +kernel
  · show (kitB "int" "int").getD false = true; decide +kernel
  · show (kitB "str" "int").getD false = false; decide +kernel
  · show (kitB "list" "int").getD false = false; decide +kernel
  · show (kitB "tuple" "int").getD false = false; decide +kernel
  · show (kitB "dict" "int").getD false = false; decide +kernel
theorem isD_bool (d : PyData) : isD "bool" d = (match d with | .bool _ => true | _ => false) := by
  cases d
  · show (kitB "NoneType" "bool").getD false = false; decide +kernel
  · show (kitB "bool" "bool").getD false = true; decide +kernel
  · show (kitB "int" "bool").getD false = false; decide +kernel
  · show (kitB "str" "bool").getD false = false; decide +kernel
  · show (kitB "list" "bool").getD false = false; decide +kernel
  · show (kitB "tuple" "bool").getD false = false; decide +kernel
  · show (kitB "dict" "bool").getD false = false; decide +kernel
theorem isD_tuple (d : PyData) : isD "tuple" d = (match d with | .tuple _ => true | _ => false) := by
  cases d
  · show (kitB "NoneType" "tuple").getD false = false; decide +kernel
  · show (kitB "bool" "tuple").getD false = false; decide +kernel
  · show (kitB "int" "tuple").getD false = false; decide +kernel
  · show (kitB "str" "tuple").getD false = false; decide +kernel
  · show (kitB "list" "tuple").getD false = false; decide +kernel
  · show (kitB "tuple" "tuple").getD false = true; decide +kernel
  · show (kitB "dict" "tuple").getD false = false; decide +kernel
theorem isD_list (d : PyData) : isD "list" d = (match d with | .list _ => true | _ => false) := by
  cases d
  · show (kitB "NoneType" "list").getD false = false; decide +kernel
  · show (kitB "bool" "list").getD false = false; decide +kernel
  · show (kitB "int" "list").getD false = false; decide +kernel
  · show (kitB "str" "list").getD false = false; decide +kernel
  · show (kitB "list" "list").getD false = true; decide +kernel
  · show (kitB "tuple" "list").getD false = false; decide +kernel
  · show (kitB "dict" "list").getD false = false; decide +kernel
theorem isD_str (d : PyData) : isD "str" d = (match d with | .str _ => true | _ => false) := by
  cases d
  · show (kitB "NoneType" "str").getD false = false; decide +kernel
  · show (kitB "bool" "str").getD false = false; decide +kernel
  · show (kitB "int" "str").getD false = false; decide +kernel
  · show (kitB "str" "str").getD false = true; decide +kernel
  · show (kitB "list" "str").getD false = false; decide +kernel
  · show (kitB "tuple" "str").getD false = false; decide +kernel
  · show (kitB "dict" "str").getD false = false; decide +kernel
/-- the reading of isinstance(e, T) -/
def tIsi (K : PySem.W.Frag) (T : String) (te : TE) : TE := tCB (rIsi K) (tCons te (tCons (tC (.ty T)) tNil))
theorem pe_isi {X : Cx} {e : Expr} {te : TE} {p p2 pos : Pos} {x : Str} {T : String} (he : PE X e te) (gi : X.mg "isinstance" = none) (gT : X.mg x = none) (hb : bootBuiltins x = some (.type T))
    (h1 : Gl X "isinstance" := by rfl) (h2 : Gl X x := by rfl) (hn : x ≠ "__name__" := by decide) (hd : (x == ("__debug__" : Str)) = false := by decide)
    (hs : starEach [e, .Name x p2] X.env = (false, eval e X.env) :: starEach [.Name x p2] X.env := by rfl) (hs2 : starEach [.Name x p2] X.env = (false, eval (.Name x p2) X.env) :: starEach [] X.env := by rfl)
    (hpl : (backTo pos (starEach [.Name x p2] X.env)).any (·.1) = false := by rfl) :
    PE X (.Call (.Name "isinstance" p) [e, .Name x p2] [] pos) (tIsi X.K T te) :=
  pe_callB call_isi h1 gi (by decide +kernel) (pa_cons he (pa_cons (pe_bltn (v := .ty T) h2 gT hb rfl hn hd) pa_nil hs2) hs) (by decide) (by decide) hs hpl
theorem isi_var {K : PySem.W.Frag} {H : Hp} {σ : L2.St} {i : Nat} {v : V} {d : PyData} {T : String} {b : Bool} {Q : VK} (e : σ[i]? = some (some v)) (h : Dp K H v d) (hT : T ∈ ["int", "bool", "str", "tuple", "list"]) (hb : isD T d = b) (q : Q (.bl b) H) :
    tIsi K T (tVar i) σ H Q := ⟨v, e, isi_any (Q := Q) h hT (by rw [hb]; exact q)⟩
end Say

set_option Elab.async false
set_option linter.all false
set_option maxRecDepth 100000
set_option maxHeartbeats 4000000
/-! enumerate(v), v a list or a tuple -/
namespace Say
open PySem PySem.Spec PyProof.Rows L2
set_option maxHeartbeats 1000000 in
theorem meets_enum1 {v : Value} {o : Obj} {G : Heap → Prop} (B : Begins v o G) :
    Meets (Builtin.«enumerate.__new__» ⟨[.type "enumerate", v], []⟩) (fun _ R s => G s.heap ∧ R (.ok (.ret (.ref (s.heap.push o).objs.size)))
      { s with heap := (s.heap.push o).push { cls := .type "enumerate", data := .fields #[.none, .bool false, .ref s.heap.objs.size, rawInt 0, .none, .none] } }) :=
  .of_wp fun prog w A R s h => by
    obtain ⟨hp, g, d, tk, os⟩ := s
    obtain ⟨g1, h⟩ := h
    have hsub := sub_enumerate
    have z : ∀ {A' : Around} {E Q : Value → Shared → Prop}, Q (.ref hp.objs.size) ⟨hp.push o, g, d, tk, os⟩ → wpAny (model prog w) A' (pyIter v) Q E ⟨hp, g, d, tk, os⟩ := fun q => B.iter prog w _ _ ⟨hp, g, d, tk, os⟩ _ g1 q
    wp_walk using z
    refine wpAny_stack_any fun st => wpAny_pure ?_
    split
    · rename_i c _ _ _ _ _
      cases (c == Value.type "enumerate") <;> (wp_walk using z; exact ⟨_, rfl, h⟩)
    · wp_walk using z
      exact ⟨_, rfl, h⟩
theorem enum1_call {prog : Program} {w : World} {A : Around} {E : Value → Shared → Prop} {s : Shared} {v : Value} {o : Obj} {G : Heap → Prop} {Q : Value → Shared → Prop} (B : Begins v o G) (g1 : G s.heap)
    (h : ∀ h', IsEnum h' (s.heap.objs.size + 1) s.heap.objs.size 0 .none → h'.get? s.heap.objs.size = some o → (∀ b o, s.heap.get? b = some o → h'.get? b = some o) → Q (.ref (s.heap.objs.size + 1)) { s with heap := h' }) :
    wpAny (model prog w) A (call (.type "enumerate") [v]) Q E s := by
  refine callType_new F.called_enumerate (by decide) (F.typeCall_enumerate_1 _) (F.newCall_enumerate_1 _) (fun obj => F.args_object_init_2 obj _) F.entry_enumerate_new (meets_enum1 B) ⟨g1, ?_⟩
  have sz : (s.heap.push o).objs.size = s.heap.objs.size + 1 := Heap.size_push ..
  show _ ∧ _
  rw [sz]
  have he : IsEnum ((s.heap.push o).push { cls := .type "enumerate", data := .fields #[.none, .bool false, .ref s.heap.objs.size, rawInt 0, .none, .none] }) (s.heap.objs.size + 1) s.heap.objs.size 0 .none := by
    have k := Heap.get?_push_size (s.heap.push o) (o := { cls := .type "enumerate", data := .fields #[.none, .bool false, .ref s.heap.objs.size, rawInt 0, .none, .none] }) rfl
    rw [sz] at k
    exact k
  exact ⟨⟨_, he, rfl⟩, h _ he (Heap.get?_push_of_some _ (Heap.get?_push_size _ B.free)) fun b o x => Heap.get?_push_of_some _ (Heap.get?_push_of_some _ x)⟩
/-- the tuple at a as it stands at each turn, each item in a new pair -/
def IteT (K : PySem.W.Frag) (a : Addr) : It :=
  ⟨fun i H => ∃ (xs : List V) (x : V), SqT K H a xs ∧ xs[i]? = some x, fun i H v H' => ∃ T x, v = .ref T ∧ H T = none ∧ H' = upd H T (.tup [.int (i : Nat), x]) ∧ ∀ xs, SqT K H a xs → xs[i]? = some x, fun i H => ∃ xs : List V, SqT K H a xs ∧ xs.length = i⟩
theorem turn_enumT {P : Program} {w : World} {K : PySem.W.Frag} {elts : List Expr} {kk : Nat} {tpos : Pos} (a e it : Addr) (hai : a ≠ it) (hae : e ≠ a) :
    Turn P w K (.Tuple elts kk tpos) (IteT K a) [e, it] e (fun i h => (∃ old, IsEnum h e it ((i : Nat) : Int) old) ∧ h.IsTupleIter it a i ∧ e ≠ it) where
  mem := by simp
  obj := fun i h st b hb => by
    obtain ⟨⟨old, he⟩, ⟨o, ho, hc, hd⟩, _⟩ := st
    rcases (by simpa using hb : b = e ∨ b = it) with rfl | rfl
    · exact ⟨_, he, fun v q => nomatch q⟩
    · exact ⟨o, ho, fun v q => by rw [hd] at q; cases q⟩
  keep := fun i h h' st k => let ⟨⟨old, he⟩, hi, hne⟩ := st; ⟨⟨old, k e (by simp) _ he⟩, hi.at fun o q => k it (by simp) o q, hne⟩
  item := by
    intro X hP hw hK hc i pins s σ H E I hf st hg
    subst hP hw hK
    obtain ⟨⟨old, he⟩, hit, hne⟩ := st
    obtain ⟨xs, x, hq, hx⟩ := hg
    obtain ⟨its, rv, p, hz⟩ := I.tuple hq
    obtain ⟨u, hu, ru⟩ := rv.get hx
    have le : e < s.heap.objs.size := Heap.lt_size he
    have li : it < s.heap.objs.size := by
      obtain ⟨_, q, _⟩ := hit
      exact Heap.lt_size q
    have hh : X.A.in1.handled = none := I.ok.hd hc
    have D := Draws.tuple (prog := X.prog) (w := X.w) hh it a hai its.toArray
    have lt : i < its.toArray.size := by
      have y := (List.getElem?_eq_some_iff.mp hu).1
      simpa using y
    refine wpAny_pyNext_enum_itemD D he ⟨hit, p⟩ lt hne (by simp [hne, hae]) fun x' h' tk hPx ho hst' hT hsz hk => ?_
    have ex : x' = u := by
      have y : its.toArray[i]? = some x' := hPx
      rw [List.getElem?_toArray, hu] at y
      exact (Option.some.inj y).symm
    subst ex
    refine ⟨_, rfl, wpAny_letOwnedTupleGo_enum (s := { s with heap := h', toks := tk + 1 }) ho fun h'' he' sb => ?_⟩
    have hT2 : h''.get? s.heap.objs.size = some { cls := .type "tuple", data := .seq #[.int i tk, x'] } := (sb.2 _ (Nat.ne_of_gt le)).trans hT
    have new : ObjOk X.prog X.w (upd H s.heap.objs.size (.tup [.int (i : Nat), x])) h'' s.heap.objs.size (.tup [.int (i : Nat), x]) :=
      ⟨by show 2 ≤ sizeLine; decide, [.int i tk, x'], .cons ⟨_, rfl⟩ (.cons ru .nil), ⟨_, hT2, rfl, _, rfl⟩⟩
    have I1 : Inv X pins σ (upd H s.heap.objs.size (.tup [.int (i : Nat), x])) { s with heap := h'', toks := tk + 1 } :=
      I.turnedNew (ch := [e, it]) (fun b ob hb q => (sb.2 b (fun z => hb (by simp [z]))).trans (hk b ob (fun z => hb (by simp [z])) (fun z => hb (by simp [z])) q)) hf (Nat.le_refl _) new
    refine ⟨.ref s.heap.objs.size, _, I1, rfl, ⟨_, x, rfl, I.hok.fresh (Nat.le_refl _), rfl, fun ys hy => ?_⟩, ⟨⟨x', ?_⟩, hst'.1.at fun o q => (sb.2 it (Ne.symm hne)).trans q, hne⟩, fun b hb => ?_⟩
    · rw [I.tuple_inj hy hq]
      exact hx
    · have e1 : ((i + 1 : Nat) : Int) = (i : Int) + 1 := by omega
      rw [e1]
      exact he'
    · have lb : b < s.heap.objs.size := by
        rcases (by simpa using hb : b = e ∨ b = it) with rfl | rfl
        · exact le
        · exact li
      rw [upd_ne (Nat.ne_of_lt lb)]
      exact (hf b hb).1
  done := by
    intro X hP hw hK hc i pins s σ H E I hf st hg
    subst hP hw hK
    obtain ⟨⟨old, he⟩, hit, hne⟩ := st
    obtain ⟨xs, hq, hx⟩ := hg
    obtain ⟨its, rv, p, hz⟩ := I.tuple hq
    obtain ⟨f0, f1, f2, f3, f4, f5⟩ := hf it (by simp)
    have hh : X.A.in1.handled = none := I.ok.hd hc
    have n : its.toArray.size = i := by
      have y := rv.length
      simp
      omega
    exact wpAny_pyNext_enum_endD (Draws.tuple (prog := X.prog) (w := X.w) hh it a hai its.toArray) he (by rw [n]; exact ⟨hit, p⟩) fun h' eb => ⟨rfl, I.turned (t' := s.toks) (fun b o hb q => eb b o hb q) f0 f1 f3 f4 f5⟩
  self := fun A i s Q E st h => let ⟨⟨_, he⟩, _⟩ := st; wpAny_pyIter_enum he h
def iEnSq (K : PySem.W.Frag) (ta : TA) : TI := fun σ H R => ta σ H fun vs H1 => ∃ a, vs = [.ref a] ∧ (((∃ xs, SqL K H1 a xs) ∧ R (Ite K a) H1) ∨ ((∃ xs, SqT K H1 a xs) ∧ R (IteT K a) H1))
theorem pi_enumSq {X : Cx} {e : Expr} {ta : TA} {p pos tpos : Pos} {elts : List Expr} {kk : Nat} (hg : Gl X "enumerate") (hm : X.mg "enumerate" = none) (ha : PA X [e] ta) (hs : starEach [e] X.env = [(false, eval e X.env)] := by rfl) :
    PI X (.Tuple elts kk tpos) (.Call (.Name "enumerate" p) [e] [] pos) (iEnSq X.K ta) := by
  refine ⟨fun pins s σ H R I h => ?_⟩
  refine Call_ (ld_blt I hg hm boot_enumerate (PyProof.Rows.callWith_type1 (thn (ha.run pos pins s σ H _ I h) fun us s1 ⟨vs, H1, I1, r1, q1⟩ => ?_) hs rfl))
  obtain ⟨a, ex, q⟩ := q1
  subst ex
  cases r1 with
  | cons r rr =>
    cases rr
    cases r
    have fin : ∀ {J : It} {tn : Nat → Heap → Prop} (h' : Heap), Turn X.prog X.w X.K (.Tuple elts kk tpos) J [s1.heap.objs.size + 1, s1.heap.objs.size] (s1.heap.objs.size + 1) tn → tn 0 h' → R J H1 →
        (∀ b o, s1.heap.get? b = some o → h'.get? b = some o) → PIE X pins σ (.Tuple elts kk tpos) R (.ref (s1.heap.objs.size + 1)) { s1 with heap := h' } := fun {J tn} h' T t0 r hk =>
      ⟨s1.heap.objs.size + 1, [s1.heap.objs.size + 1, s1.heap.objs.size], _, _, H1, rfl, I1.kept (t' := s1.toks) hk, T, t0, fun b hb => by
        have hle : s1.heap.objs.size ≤ b := by
          rcases (by simpa using hb : b = s1.heap.objs.size + 1 ∨ b = s1.heap.objs.size) with rfl | rfl <;> omega
        exact I1.fpOk hle (I1.hok.fresh hle), r⟩
    rcases q with ⟨⟨xs, hq⟩, q⟩ | ⟨⟨xs, hq⟩, q⟩
    · obtain ⟨its, rv, p', hz⟩ := I1.list hq
      exact enum1_call (begins_list a its.toArray) p'.isList fun h' he hit hk => wpAny_pyIter_enum he (fin h' (turn_enum a (s1.heap.objs.size + 1) s1.heap.objs.size) ⟨⟨.none, he⟩, ⟨_, hit, rfl, rfl⟩, Nat.succ_ne_self _⟩ q hk)
    · obtain ⟨its, rv, p', hz⟩ := I1.tuple hq
      have la : a < s1.heap.objs.size := by
        obtain ⟨_, y, _⟩ := (show s1.heap.IsTuple a its.toArray from p')
        exact Heap.lt_size y
      have n1 : a ≠ s1.heap.objs.size := Nat.ne_of_lt la
      have n2 : s1.heap.objs.size + 1 ≠ a := fun z => Nat.lt_asymm la (z ▸ Nat.lt_succ_self _)
      exact enum1_call (begins_tuple a its.toArray) p' fun h' he hit hk => wpAny_pyIter_enum he (fin h' (turn_enumT a (s1.heap.objs.size + 1) s1.heap.objs.size n1 n2) ⟨⟨.none, he⟩, ⟨_, hit, rfl, rfl⟩, Nat.succ_ne_self _⟩ q hk)
theorem walk_enumT {K : PySem.W.Frag} {a : Addr} {xs : List V} : Walk (IteT K a) xs.length (fun H => SqT K H a xs) (YPair (fun i => some (.int (i : Nat))) (fun i => xs[i]?)) := by
  refine ⟨fun i _ hi q => ⟨xs, xs[i], q, by simp [hi]⟩, fun _ q => ⟨xs, q, rfl⟩, fun i H v H' _ q y => ?_⟩
  obtain ⟨T, x, h1, h2, h3, h4⟩ := y
  exact ⟨T, .int (i : Nat), x, h1, h2, h3, rfl, h4 xs q⟩
/-! ### one reading for a for, and one for a comprehension, over a list or a tuple -/
/-- the turns of a for -/
abbrev ForR (J : It) (g : TG) (tb : TS) (D : Ends) (σ : L2.St) (H : Hp) : Prop := ∃ W : Nat → Nat → L2.St → Hp → Prop, (∃ m, W 0 m σ H) ∧ ∀ i m σ H, W i m σ H →
  (J.stop i H ∧ D.nx σ H) ∨ (J.go i H ∧ ∃ N : L2.St → Hp → Prop, (∀ σ' H', N σ' H' → ∃ m', m' < m ∧ W (i + 1) m' σ' H') ∧ ∀ x H', J.yld i H x H' → g x σ H' fun σ2 H2 => tb { D with nx := N, ct := N, bk := D.nx } σ2 H2)
theorem for_enSq {K : PySem.W.Frag} {a : Addr} {xs : List V} {g : TG} {tb : TS} {D : Ends} {σ : L2.St} {H : Hp} (Pv : Nat → L2.St → Hp → Prop) (hq : Sq K H a xs) (h0 : Pv 0 σ H)
    (hl : ∀ i σ H', i ≤ xs.length → Pv i σ H' → Same H H')
    (hs : ∀ i x σ H' T, xs[i]? = some x → Pv i σ H' → H' T = none → g (.ref T) σ (upd H' T (.tup [.int (i : Nat), x])) fun σ2 H2 => tb { D with nx := Pv (i + 1), ct := Pv (i + 1), bk := D.nx } σ2 H2) (hd : ∀ σ H', Pv xs.length σ H' → D.nx σ H') :
    ((∃ xs, SqL K H a xs) ∧ ForR (Ite K a) g tb D σ H) ∨ ((∃ xs, SqT K H a xs) ∧ ForR (IteT K a) g tb D σ H) := by
  have st : ∀ i x σ H' H2, i < xs.length → Pv i σ H' → YPair (fun i => some (.int (i : Nat))) (fun i => xs[i]?) i H' x H2 → g x σ H2 fun σ2 H2 => tb { D with nx := Pv (i + 1), ct := Pv (i + 1), bk := D.nx } σ2 H2 := fun i x σ H' H2 hi p y => by
    obtain ⟨T, u, v, rfl, n, rfl, e1, e2⟩ := y
    cases e1
    exact hs i v σ H' T e2 p n
  rcases hq with hq | hq
  · exact .inl ⟨⟨xs, hq⟩, for_it (walk_enum (K := K) (a := a) (xs := xs)) Pv h0 (fun i σ H' hi p => (hl i σ H' hi p).seq hq) st hd⟩
  · exact .inr ⟨⟨xs, hq⟩, for_it (walk_enumT (K := K) (a := a) (xs := xs)) Pv h0 (fun i σ H' hi p => grow_sqT (grow_same (hl i σ H' hi p)) hq) st hd⟩
/-- the turns of a comprehension into the list at D -/
abbrev LcR (J : It) (g : TG) (tt : TT) (te : TE) (vs : List Nat) (σ : L2.St) (H1 : Hp) (D : Addr) (Qd : Hp → Prop) : Prop := ∃ W : Nat → Nat → Hp → Prop, (∃ m, W 0 m (upd H1 D (.lst []))) ∧ ∀ i m H, W i m H →
  (J.stop i H ∧ Qd H) ∨ (J.go i H ∧ ∃ Nx : Hp → Prop, (∀ H', Nx H' → ∃ m', m' < m ∧ W (i + 1) m' H') ∧ ∀ x H', J.yld i H x H' → g x (wipe σ vs) H' fun σ2 H2 => wipe σ2 vs = wipe σ vs ∧ tt σ2 H2 fun b H3 =>
    if b = true then te σ2 H3 fun y H4 => ∃ acc, H4 D = some (.lst acc) ∧ acc.length < sizeLine ∧ Nx (upd H4 D (.lst (acc ++ [y]))) else Nx H3)
/-- what is made so far is in the list at D, and all that stood, stands -/
def LcI (H0 : Hp) (D : Addr) (ys : List V) (H : Hp) : Prop := Same H0 H ∧ H D = some (.lst ys)
theorem lci_0 {H0 : Hp} {D : Addr} (n : H0 D = none) : LcI H0 D [] (upd H0 D (.lst [])) := ⟨same_new n, upd_same⟩
theorem lci_step {H0 H : Hp} {D : Addr} {ys zs : List V} {y : V} (h : LcI H0 D ys H) (n : H0 D = none) (hl : ys.length < sizeLine) (e : zs = ys ++ [y]) :
    ∃ acc, H D = some (.lst acc) ∧ acc.length < sizeLine ∧ LcI H0 D zs (upd H D (.lst (acc ++ [y]))) := ⟨ys, h.2, hl, same_upd h.1 n, by rw [e]; exact upd_same⟩
theorem lc_sq {K : PySem.W.Frag} {a : Addr} {xs : List V} {g : TG} {tt : TT} {te : TE} {vs : List Nat} {σ : L2.St} {H : Hp} {Qd : Addr → Hp → Prop} (out : Nat → List V) (hq : Sq K H a xs) (h0 : out 0 = [])
    (hs : ∀ D, H D = none → ∀ i x H', xs[i]? = some x → LcI H D (out i) H' → g x (wipe σ vs) H' fun σ2 H2 => wipe σ2 vs = wipe σ vs ∧ tt σ2 H2 fun b H3 =>
      if b = true then te σ2 H3 fun y H4 => ∃ acc, H4 D = some (.lst acc) ∧ acc.length < sizeLine ∧ LcI H D (out (i + 1)) (upd H4 D (.lst (acc ++ [y]))) else LcI H D (out (i + 1)) H3)
    (hd : ∀ D H', H D = none → LcI H D (out xs.length) H' → Qd D H') :
    ((∃ xs, SqL K H a xs) ∧ ∀ D, H D = none → LcR (Itl K a) g tt te vs σ H D (Qd D)) ∨ ((∃ xs, SqT K H a xs) ∧ ∀ D, H D = none → LcR (Itt K a) g tt te vs σ H D (Qd D)) := by
  rcases hq with hq | hq
  · refine .inl ⟨⟨xs, hq⟩, fun D hD => lc_it (walk_list (K := K) (a := a) (xs := xs)) (fun i => LcI H D (out i)) (by rw [h0]; exact lci_0 hD) (fun i H' hi p => p.1.seq hq) (fun i x H' H2 hi p y => ?_) fun H' p => hd D H' hD p⟩
    obtain ⟨rfl, y⟩ := y
    exact hs D hD i x H2 y p
  · refine .inr ⟨⟨xs, hq⟩, fun D hD => lc_it (walk_tup (K := K) (a := a) (xs := xs)) (fun i => LcI H D (out i)) (by rw [h0]; exact lci_0 hD) (fun i H' hi p => grow_sqT (grow_same p.1) hq) (fun i x H' H2 hi p y => ?_) fun H' p => hd D H' hD p⟩
    obtain ⟨rfl, y⟩ := y
    exact hs D hD i x H2 y p
/-- xs[k], xs a local that holds a list or a tuple -/
theorem ixv {K : PySem.W.Frag} {H : Hp} {σ : L2.St} {i : Nat} {k : Int} {a : Addr} {xs : List V} {v : V} {Q : VK} (e : σ[i]? = some (some (.ref a))) (h : Sq K H a xs) (hv : atI xs k = some v) (q : Q v H) : tOp (rIxS2 K) (tVar i) (tC (.int k)) σ H Q :=
  ⟨_, e, ix_at (Q := Q) h hv q⟩
end Say

set_option Elab.async false
set_option linter.all false
set_option maxRecDepth 100000
set_option maxHeartbeats 4000000
/-! Dicts whose keys are nested tuples: {}, k in d, d[k] = v, list(d.values()). -/
namespace Say
open PySem PySem.Spec PyProof.Rows L2
/-! ### 1. keys -/
section
variable {X : Cx} {pins : List (Addr × Obj)} {σ : L2.St} {H : Hp} {s : Shared}
mutual
theorem nk_is (I : Inv X pins σ H s) : ∀ (k : NestedKey) (v : V) (u : Value), Dp X.K H v k.data → RelV v u → NestedIs s.heap k u
  | .none, _, _, h, r => by
    cases h
    cases r
    exact .none
  | .num i, _, _, h, r => by
    cases h
    obtain ⟨t, rfl⟩ := r
    exact .int i t
  | .text x, _, _, h, r => by
    cases h
    obtain ⟨t, rfl⟩ := r
    exact .text x t
  | .tup ks, _, _, h, r => by
    cases h with
    | tup hs ha =>
      cases r
      obtain ⟨its, rv, ⟨o, e, c, n, d⟩, _⟩ := I.tuple hs
      exact .tup e c d (by rw [List.toList_toArray]; exact nk_all I ks _ _ ha rv)
theorem nk_all (I : Inv X pins σ H s) : ∀ (ks : List NestedKey) (vs : List V) (us : List Value), DpAll X.K H vs (NestedKey.datas ks) → Vals vs us → NestedAll s.heap ks us
  | [], _, _, h, r => by
    cases h
    cases r
    exact .nil
  | k :: ks, _, _, h, r => by
    cases h with
    | cons h1 h2 =>
      cases r with
      | cons r1 r2 => exact .cons (nk_is I k _ _ h1 r1) (nk_all I ks _ _ h2 r2)
end
end
mutual
theorem nk_firm : ∀ k : NestedKey, firm k.data = true
  | .none => rfl
  | .num _ => rfl
  | .text _ => rfl
  | .tup ks => by
    show firmAll (NestedKey.datas ks) = true
    exact nk_firms ks
theorem nk_firms : ∀ ks : List NestedKey, firmAll (NestedKey.datas ks) = true
  | [] => rfl
  | k :: ks => by
    show (firm k.data && firmAll (NestedKey.datas ks)) = true
    rw [nk_firm k, nk_firms ks]
    rfl
end
/-! ### 2. the dict -/
def DictN (P : Program) (w : World) (a : Addr) (xs : List (NestedKey × Addr × Value)) : HO := .ext fun h => (a == sysModules) = false ∧
  ∃ o es ep, h.get? a = some o ∧ o.ExactDict ∧ o.data = .dict es ep ∧ es.toList = xs.map (entryOfKey (nestedKind P w)) ∧ (xs.map (·.1)).Nodup
abbrev KN (K : PySem.W.Frag) (H : Hp) : List (NestedKey × V) → List (NestedKey × Addr × Value) → Prop :=
  Paired fun (p : NestedKey × V) (q : NestedKey × Addr × Value) => p.1 = q.1 ∧ (q.1.depth ≤ 8 ∧ Dp K H (.ref q.2.1) q.1.data) ∧ RelV p.2 q.2.2
/-- at a stands a dict with nested tuples for keys -/
def DN (K : PySem.W.Frag) (P : Program) (w : World) (H : Hp) (a : Addr) (kvs : List (NestedKey × V)) : Prop := ∃ xs, H a = some (DictN P w a xs) ∧ KN K H kvs xs
theorem kn_kv {K : PySem.W.Frag} {H : Hp} : ∀ {kvs : List (NestedKey × V)} {xs : List (NestedKey × Addr × Value)}, KN K H kvs xs → KV kvs (pairsH xs)
  | _, _, .nil => .nil
  | _, _, .cons r t => .cons ⟨r.1, r.2.2⟩ (kn_kv t)
theorem kn_is {X : Cx} {pins : List (Addr × Obj)} {σ : L2.St} {H : Hp} {s : Shared} (I : Inv X pins σ H s) : ∀ {kvs : List (NestedKey × V)} {xs : List (NestedKey × Addr × Value)}, KN X.K H kvs xs → ∀ x ∈ xs, (nestedKind X.prog X.w).is s.heap x.1 x.2.1
  | _, _, .cons r t, x, hx => by
    rcases List.mem_cons.mp hx with rfl | hx
    · exact ⟨nk_is I _ _ _ r.2.1.2 rfl, r.2.1.1⟩
    · exact kn_is I t x hx
theorem kn_grow {K : PySem.W.Frag} {H H' : Hp} (g : Grow H H') : ∀ {kvs : List (NestedKey × V)} {xs : List (NestedKey × Addr × Value)}, KN K H kvs xs → KN K H' kvs xs
  | _, _, .nil => .nil
  | _, _, .cons r t => .cons ⟨r.1, ⟨r.2.1.1, dp_grow g _ _ (nk_firm _) r.2.1.2⟩, r.2.2⟩ (kn_grow g t)
theorem dn_grow {K : PySem.W.Frag} {P : Program} {w : World} {H H' : Hp} {a : Addr} {kvs : List (NestedKey × V)} (g : Grow H H') (e : H' a = H a) (h : DN K P w H a kvs) : DN K P w H' a kvs := by
  obtain ⟨xs, h1, h2⟩ := h
  exact ⟨xs, e.trans h1, kn_grow g h2⟩
theorem dn_same {K : PySem.W.Frag} {P : Program} {w : World} {H H' : Hp} {a : Addr} {kvs : List (NestedKey × V)} (g : Same H H') (h : DN K P w H a kvs) : DN K P w H' a kvs := by
  obtain ⟨xs, h1, h2⟩ := h
  exact ⟨xs, g _ _ h1, kn_grow (grow_same g) h2⟩
theorem dictN_ok {P : Program} {w : World} {H : Hp} {h : Heap} {a : Addr} {xs : List (NestedKey × Addr × Value)} (ha : (a == sysModules) = false) (D : h.DictOfH (nestedKind P w) a xs) : ObjOk P w H h a (DictN P w a xs) := by
  obtain ⟨o, es, ep, ho, ex, hd, he, _, nd⟩ := D
  exact ⟨⟨ha, o, es, ep, ho, ex, hd, he, nd⟩, ⟨o, ho⟩, fun h1 h2 ⟨q0, o, es, ep, q1, q⟩ k => ⟨q0, o, es, ep, k _ q1, q⟩⟩
theorem dn_at {X : Cx} {pins : List (Addr × Obj)} {σ : L2.St} {H : Hp} {s : Shared} {a : Addr} {xs : List (NestedKey × Addr × Value)} {kvs : List (NestedKey × V)} (I : Inv X pins σ H s) (h1 : H a = some (DictN X.prog X.w a xs)) (h2 : KN X.K H kvs xs) :
    (a == sysModules) = false ∧ s.heap.DictOfH (nestedKind X.prog X.w) a xs := by
  obtain ⟨⟨q0, o, es, ep, q1, q2, q3, q4, q5⟩, _⟩ := I.hok a _ h1
  exact ⟨q0, o, es, ep, q1, q2, q3, q4, kn_is I h2, q5⟩
/-! ### 3. the rules -/
section
variable {X : Cx}
theorem room_n {A : Around} (h : A.units + 64 < cLine) : A.in1.units + 8 < cLine := by
  rw [Around.in1_units]
  omega
/-- k in d, k not in d -/
def rInN (K : PySem.W.Frag) (P : Program) (w : World) (neg : Bool) : R2 := fun x y H Q => ∃ (b d : Addr) (k : NestedKey) (kvs : List (NestedKey × V)), x = .ref b ∧ y = .ref d ∧ Dp K H (.ref b) k.data ∧ k.depth ≤ 8 ∧ DN K P w H d kvs ∧
  Q (.bl (if neg then !(valV kvs k).isSome else (valV kvs k).isSome)) H
theorem some_eq {kvs : List (NestedKey × V)} {vs : List (NestedKey × Value)} (r : KV kvs vs) (k : NestedKey) : (valV kvs k).isSome = (valueAt vs k).isSome := by
  have h := r.val k
  cases h1 : valV kvs k <;> cases h2 : valueAt vs k <;> rw [h1, h2] at h
  · rfl
  · exact h.elim
  · exact h.elim
  · rfl
theorem op_inN (hu : X.A.units + 64 < cLine) : OpR X (compareOp .In) (rInN X.K X.prog X.w false) := by
  intro pins s σ H x y v u Q I rx ry h
  obtain ⟨b, d, k, kvs, rfl, rfl, hb, hk, ⟨xs, h1, h2⟩, q⟩ := h
  cases rx
  cases ry
  obtain ⟨z0, D⟩ := dn_at I h1 h2
  refine in_keyed (knd := nestedKind X.prog X.w) (room_n hu) ⟨nk_is I k _ _ hb rfl, hk⟩ z0 ⟨xs, D, rfl⟩ ?_
  rw [← some_eq (kn_kv h2) k]
  exact ⟨.bl _, H, I.tok _, rfl, q⟩
theorem op_notInN (hu : X.A.units + 64 < cLine) : OpR X (compareOp .NotIn) (rInN X.K X.prog X.w true) := by
  intro pins s σ H x y v u Q I rx ry h
  obtain ⟨b, d, k, kvs, rfl, rfl, hb, hk, ⟨xs, h1, h2⟩, q⟩ := h
  cases rx
  cases ry
  obtain ⟨z0, D⟩ := dn_at I h1 h2
  refine notIn_keyed (knd := nestedKind X.prog X.w) (room_n hu) ⟨nk_is I k _ _ hb rfl, hk⟩ z0 ⟨xs, D, rfl⟩ ?_
  rw [← some_eq (kn_kv h2) k]
  exact ⟨.bl _, H, I.tok _, rfl, q⟩
theorem kn_put {K : PySem.W.Frag} {H : Hp} {k : NestedKey} {a : Addr} {y : V} {u : Value} (hk : k.depth ≤ 8) (ha : Dp K H (.ref a) k.data) (ry : RelV y u) : ∀ {kvs : List (NestedKey × V)} {xs : List (NestedKey × Addr × Value)}, KN K H kvs xs → KN K H (putK kvs k y) (storedH xs k a u) := by
  intro kvs xs r
  have e1 : (kvs.any fun kv => decide (kv.1 = k)) = (atKey xs k).isSome := by
    induction r with
    | nil => rfl
    | cons r t ih =>
      rename_i p q ps qs
      by_cases e : q.1 = k
      · have e2 : p.1 = k := r.1.trans e
        simp [atKey, e, e2]
      · have e2 : ¬ p.1 = k := fun z => e (r.1.symm.trans z)
        simp only [List.any_cons, e2, decide_false, Bool.false_or]
        rw [ih]
        simp [atKey, e]
  unfold putK storedH
  rw [e1]
  split
  · clear e1
    rename_i z
    clear z
    induction r with
    | nil => exact .nil
    | cons r t ih =>
      rename_i p q ps qs
      refine .cons ?_ ih
      by_cases e : q.1 = k
      · have e2 : p.1 = k := r.1.trans e
        simp only [e2, if_true, putAt, e]
        exact ⟨trivial, ⟨hk, by rw [← e]; exact r.2.1.2⟩, ry⟩
      · have e2 : ¬ p.1 = k := fun z => e (r.1.symm.trans z)
        simp only [e2, if_false, putAt, e]
        exact r
  · have app : ∀ {kvs : List (NestedKey × V)} {xs : List (NestedKey × Addr × Value)}, KN K H kvs xs → KN K H (kvs ++ [(k, y)]) (xs ++ [(k, a, u)]) := by
      intro kvs xs r
      induction r with
      | nil => exact .cons ⟨rfl, ⟨hk, ha⟩, ry⟩ .nil
      | cons r t ih => exact .cons r ih
    exact app r
/-- d[k] = v -/
def rSetN (K : PySem.W.Frag) (P : Program) (w : World) : TSet := fun o i v H Q => ∃ (d b : Addr) (k : NestedKey) (kvs : List (NestedKey × V)), o = .ref d ∧ i = .ref b ∧ Dp K H (.ref b) k.data ∧ k.depth ≤ 8 ∧ DN K P w H d kvs ∧ kvs.length < sizeLine ∧
  ∀ u, DN K P w (upd H d u) d (putK kvs k v) → Grow H (upd H d u) → Q (upd H d u)
theorem grow_ext {H : Hp} {p : Addr} {φ : Heap → Prop} {o : HO} (h : H p = some (.ext φ)) : Grow H (upd H p o) :=
  ⟨fun a ys q => by rw [upd_ne (ne_of q h (by intro z; cases z))]; exact q, fun a o2 u q => by rw [upd_ne (ne_of q h (by intro z; cases z))]; exact q⟩
theorem set_N (hu : X.A.units + 64 < cLine) : PSet X (rSetN X.K X.prog X.w) := by
  intro pins s σ H o i v ov iv u Q I ro ri rv h
  obtain ⟨d, b, k, kvs, rfl, rfl, hb, hk, ⟨xs, h1, h2⟩, hl, q⟩ := h
  cases ro
  cases ri
  obtain ⟨z0, D⟩ := dn_at I h1 h2
  have lx : xs.length = kvs.length := by
    have := (kn_kv h2).length
    rw [pairsH_length] at this
    omega
  have g : Grow H (upd H d (DictN X.prog X.w d (storedH xs k b u))) := grow_ext h1
  refine wpAny_setItem_heap (knd := nestedKind X.prog X.w) (hsz := by omega) (room_n hu) ⟨nk_is I k _ _ hb rfl, hk⟩ D fun h' D' sb => ?_
  have heo : ∃ u, h'.get? d = some u := by
    obtain ⟨o, _, _, ho, _⟩ := D'
    exact ⟨o, ho⟩
  exact ⟨_, I.write (e := d) (t' := s.toks + (nestedKind X.prog X.w).draws k) (by rw [h1]; trivial) (.inl rfl) (fun b u hb hu => (sb.2 b hb).trans hu) heo (dictN_ok z0 D'),
    q _ ⟨_, upd_same, kn_grow g (kn_put hk hb rv h2)⟩ g⟩
/-- {} -/
def tDNewN (K : PySem.W.Frag) (P : Program) (w : World) : TE := fun _ H Q => ∀ p, H p = none → ∀ u, DN K P w (upd H p u) p [] → Q (.ref p) (upd H p u)
theorem pe_dnewN {pos : Pos} : PE X (.Dict [] [] pos) (tDNewN X.K X.prog X.w) := ⟨fun pins s σ H Q I h =>
  wpAny_Dict_empty ⟨.ref s.heap.objs.size, _, I.laid (a := s.heap.objs.size) (o := DictN X.prog X.w s.heap.objs.size []) (t' := s.toks) (fun _ _ q => Heap.get?_push_of_some _ q) (Nat.le_refl _)
    (dictN_ok (beq_eq_false_iff_ne.mpr (Ne.symm (Nat.ne_of_lt I.big))) (Heap.DictOfH.new _)), rfl, h _ (I.hok.fresh (Nat.le_refl _)) _ ⟨[], upd_same, .nil⟩⟩⟩
/-! ### 4. list(d.values()) -/
theorem kdl_valuesR {prog : Program} {w : World} {r d : Addr} {es : Array DictEntry} {ep : Nat} : PySem.W.KdlSrc prog w "dict_values" r d es.size (fun i v => ∃ hi : i < es.size, v = es[i].val) (fun h => h.IsValuesView r d ∧ h.DictRaw d es ep) where
  type := fun _ hm => hm.1.typeIs
  there := fun _ hm => ⟨let ⟨_, ho, _⟩ := hm.1; Heap.lt_size ho, let ⟨_, ho, _⟩ := hm.2; Heap.lt_size ho⟩
  keep := fun _ _ hm hk => ⟨let ⟨o, ho, x⟩ := hm.1; ⟨o, hk r (.inl rfl) o ho, x⟩, hm.2.at fun o e => hk d (.inr rfl) o e⟩
  notList := by decide
  notTuple := by decide
  hint := fun _ _ _ _ hm hq => PySem.W.kdl_hint_values hm.1.typeIs hq
  iter := fun _ _ hh hm => ⟨_, _, (fun _ _ hq => wpAny_pyIter_values_raw hm.1 hm.2 hq), Walks.rawValues hh _ d (let ⟨_, ho, _⟩ := hm.2; Nat.ne_of_lt (Heap.lt_size ho)) es ep, ⟨⟨_, Heap.get?_push_size _ rfl, rfl, rfl⟩, hm.2.at fun o e => Heap.get?_push_of_some _ e⟩⟩
def rValsN (K : PySem.W.Frag) (P : Program) (w : World) : V → Hp → VK → Prop := fun x H Q => ∃ (d : Addr) (kvs : List (NestedKey × V)), x = .ref d ∧ DN K P w H d kvs ∧ kvs.length ≤ sizeLine ∧ ∀ p, H p = none → Q (.ref p) (upd H p (.lst (kvs.map (·.2))))
def tListValsN (K : PySem.W.Frag) (P : Program) (w : World) (te : TE) : TE := fun σ H Q => te σ H fun x H1 => rValsN K P w x H1 Q
theorem vals_of_entries {kvs : List (NestedKey × V)} {xs : List (NestedKey × Addr × Value)} {K : PySem.W.Frag} {H : Hp} (r : KN K H kvs xs) : Vals (kvs.map (·.2)) (xs.map (·.2.2)) := by
  induction r with
  | nil => exact .nil
  | cons r t ih => exact .cons r.2.2 ih
theorem pe_listValsN {e : Expr} {te : TE} {p apos cpos pos : Pos} (hc : X.calm = true) (he : PE X e te) (hg : Gl X "list") (hm : X.mg "list" = none) (hv : bootBuiltins "list" = some (.type "list") := by decide +kernel) (hbase : attributeBase e "values" X.env (eval e X.env) = eval e X.env := by rfl) (hline : (apos.endLine == cpos.line) = true := by rfl)
    (hs : starEach [.Call (.Attribute e "values" apos) [] [] cpos] X.env = (false, eval (.Call (.Attribute e "values" apos) [] [] cpos) X.env) :: starEach [] X.env := by rfl) :
    PE X (.Call (.Name "list" p) [.Call (.Attribute e "values" apos) [] [] cpos] [] pos) (tListValsN X.K X.prog X.w te) := by
  refine ⟨fun pins s σ H Q I hq => ?_⟩
  refine wpAny_Call_Name_kw (ld_blt I hg hm hv ?_)
  refine PyProof.Rows.callWith_type1 ?_ hs rfl
  rw [hs]
  show wpAny _ _ (spliced ((false, eval (.Call (.Attribute e "values" apos) [] [] cpos) X.env) :: backTo pos (starEach [] X.env))) _ _ s
  refine Calls.spliced_cons ?_
  refine wpAny_Call_method (T := "dict") (id := "dict.values") hbase rfl hline F.plainAttrs_dict F.slot_dict_values F.type_dict_values (thn (he.run pins s σ H _ I hq) fun u s1 ⟨x, H1, I1, rx, d, kvs, ex, hd, hz, q⟩ => ?_)
  subst ex
  obtain rfl : u = Value.ref d := rx
  obtain ⟨xs, h1, h2⟩ := hd
  obtain ⟨z0, D⟩ := dn_at I1 h1 h2
  obtain ⟨o, es, ep, ho, hx, hdat, hes, _, _⟩ := id D
  have raw : s1.heap.DictRaw d es ep := ⟨o, ho, hx, hdat⟩
  have I2 : Inv X pins σ H1 { s1 with heap := s1.heap.push { cls := .type "dict_values", data := .fields #[.ref d] } } := I1.kept (t' := s1.toks) fun b ob q => Heap.get?_push_of_some _ q
  have nd : ∀ a, Value.ref d = .ref a → ∃ ob, s1.heap.get? a = some ob ∧ ob.dict = none := fun a e => by
    cases e
    exact ⟨o, ho, hx.2.1⟩
  refine ⟨D.typeIs, nd, ?_⟩
  show wpAny _ _ (callWith cpos (.builtin "dict.values") [.ref d] [] []) _ X.xe s1
  refine method_meetsIn F.slot_dict_values F.entry_dict_values rfl (PySem.evalArgs_none ⟨rfl, D.typeIs, F.args_dict_values_1 _, _, meets_dict_values_raw d z0, ⟨es, ep, raw⟩, ?_⟩)
  refine Calls.spliced_nil ?_
  have lk : es.size = kvs.length := by
    have a1 : es.toList.length = xs.length := by rw [hes, List.length_map]
    have a2 := (kn_kv h2).length
    rw [pairsH_length] at a2
    rw [Array.length_toList] at a1
    omega
  refine PySem.W.kdl_call (kdl_valuesR (es := es) (ep := ep)) (I1.ok.hd hc) ⟨⟨_, Heap.get?_push_size _ rfl, rfl, rfl⟩, raw.at fun o e => Heap.get?_push_of_some _ e⟩ (by omega) fun h' tk acc c hk hS hacc => ?_
  have ev : acc.toList = xs.map (·.2.2) := by
    refine List.ext_getElem? fun i => ?_
    rw [List.getElem?_map, Array.getElem?_toList]
    have e2 : es[i]? = (xs[i]?).map (entryOfKey (nestedKind X.prog X.w)) := by rw [← Array.getElem?_toList, hes, List.getElem?_map]
    by_cases hi : i < acc.size
    · obtain ⟨v, hv⟩ : ∃ v, acc[i]? = some v := ⟨acc[i], by simp [hi]⟩
      obtain ⟨hj, e3⟩ := hacc.2 i v hv
      rw [hv]
      rw [show es[i]? = some es[i] from by simp [hj]] at e2
      cases e4 : xs[i]? with
      | none =>
        rw [e4] at e2
        cases e2
      | some y =>
        rw [e4] at e2
        have e5 := Option.some.inj e2
        rw [e3, e5]
        rfl
    · have h3 : es.size ≤ i := by
        have := hacc.1
        omega
      rw [show acc[i]? = none from by simp; omega]
      rw [show es[i]? = none from by simp; omega] at e2
      cases e4 : xs[i]? with
      | none => rfl
      | some y =>
        rw [e4] at e2
        cases e2
  refine ⟨.ref _, _, I2.laid (a := (s1.heap.push { cls := .type "dict_values", data := .fields #[.ref d] }).objs.size) (o := .lst (kvs.map (·.2))) (t' := tk) hk (Nat.le_refl _) ⟨by rw [List.length_map]; exact hz, acc.toList, c, by rw [ev]; exact vals_of_entries h2, by rw [Array.toArray_toList]; exact hS⟩, rfl, q _ (I2.hok.fresh (Nat.le_refl _))⟩
end
end Say

set_option Elab.async false
set_option linter.all false
set_option maxRecDepth 100000
set_option maxHeartbeats 4000000
/-! comprehensions of two fors; in, of whole numbers -/
namespace Say
open PySem PySem.Spec PyProof.Rows L2
theorem inV_ints (x : Int) : ∀ ns : List Int, inV (.int x) (ns.map V.int) = decide (x ∈ ns)
  | [] => rfl
  | n :: ns => by
    have ih := inV_ints x ns
    unfold inV at ih ⊢
    rw [List.map_cons, List.any_cons, ih]
    have e : eqV (.int n) (.int x) = decide (n = x) := by
      by_cases h : n = x
      · subst h
        simp [eqV]
      · simp [eqV, h]
    rw [e]
    by_cases h : n = x
    · subst h
      simp
    · simp [h, Ne.symm h]
theorem flat_ints (ns : List Int) : (ns.map V.int).all flatV = true := by
  rw [List.all_map]
  exact List.all_eq_true.mpr fun _ _ => rfl
/-- x in xs, whole numbers -/
theorem in_ints {K : PySem.W.Frag} {H : Hp} {a : Addr} {x : Int} {ns : List Int} {Q : VK} (h : Sq K H a (ns.map V.int)) (q : Q (.bl (decide (x ∈ ns))) H) : rIn K false (.int x) (.ref a) H Q :=
  ⟨a, _, rfl, h, rfl, flat_ints ns, by rw [inV_ints]; exact q⟩
theorem notIn_ints {K : PySem.W.Frag} {H : Hp} {a : Addr} {x : Int} {ns : List Int} {Q : VK} (h : Sq K H a (ns.map V.int)) (q : Q (.bl (!decide (x ∈ ns))) H) : rIn K true (.int x) (.ref a) H Q :=
  ⟨a, _, rfl, h, rfl, flat_ints ns, by rw [inV_ints]; exact q⟩
theorem ixK {X : Cx} (K : PySem.W.Frag) (h : X.K = K) : IxR X (rIxS2 K) := h ▸ ix_sq
theorem inK {X : Cx} (K : PySem.W.Frag) (h : X.K = K) : OpR X (compareOp .In) (rIn K false) := h ▸ op_in_seq
theorem notInK {X : Cx} (K : PySem.W.Frag) (h : X.K = K) : OpR X (compareOp .NotIn) (rIn K true) := h ▸ op_notIn_seq
theorem pi_sqK {X : Cx} {tg l : Expr} {tl : TE} (K : PySem.W.Frag) (h : X.K = K) (hl : PE X l tl) : PI X tg l (iSq K tl) := h ▸ pi_sq hl
section
variable {J : It} {n : Nat} {G : Hp → Prop} {Y : Nat → Hp → V → Hp → Prop}
/-- the inner turns -/
theorem lcin_it (w : Walk J n G Y) {g : TG} {tt : TT} {te : TE} {vs : List Nat} {σ : L2.St} {H1 : Hp} {D : Addr} {Nx : Hp → Prop} (Pv : Nat → Hp → Prop) (h0 : Pv 0 H1) (hG : ∀ i H, i ≤ n → Pv i H → G H)
    (hs : ∀ i x H H', i < n → Pv i H → Y i H x H' → g x (wipe σ vs) H' fun σ2 H2 => wipe σ2 vs = wipe σ vs ∧ tt σ2 H2 fun b H3 =>
      if b = true then te σ2 H3 fun y H4 => ∃ acc, H4 D = some (.lst acc) ∧ acc.length < sizeLine ∧ Pv (i + 1) (upd H4 D (.lst (acc ++ [y]))) else Pv (i + 1) H3) (hd : ∀ H, Pv n H → Nx H) :
    ∃ W : Nat → Nat → Hp → Prop, (∃ m, W 0 m H1) ∧ ∀ i m H, W i m H →
      (J.stop i H ∧ Nx H) ∨ (J.go i H ∧ ∃ Nx1 : Hp → Prop, (∀ H', Nx1 H' → ∃ m', m' < m ∧ W (i + 1) m' H') ∧ ∀ x H', J.yld i H x H' → g x (wipe σ vs) H' fun σ2 H2 => wipe σ2 vs = wipe σ vs ∧ tt σ2 H2 fun b H3 =>
        if b = true then te σ2 H3 fun y H4 => ∃ acc, H4 D = some (.lst acc) ∧ acc.length < sizeLine ∧ Nx1 (upd H4 D (.lst (acc ++ [y]))) else Nx1 H3) := by
  refine ⟨fun i m H => m = n - i ∧ i ≤ n ∧ Pv i H, ⟨n, by simp, Nat.zero_le _, h0⟩, ?_⟩
  rintro i m H ⟨rfl, hi, p⟩
  have q := hG i H hi p
  by_cases hlt : i < n
  · refine .inr ⟨w.goes i H hlt q, Pv (i + 1), fun H' p' => ⟨n - (i + 1), by omega, rfl, hlt, p'⟩, fun x H' y => hs i x H H' hlt p (w.yields i H x H' hlt q y)⟩
  · have e : i = n := by omega
    subst e
    exact .inl ⟨w.stops H q, hd H p⟩
end
abbrev LcIn (J : It) (g : TG) (tt : TT) (te : TE) (vs : List Nat) (σ : L2.St) (H1 : Hp) (D : Addr) (Nx : Hp → Prop) : Prop := ∃ W : Nat → Nat → Hp → Prop, (∃ m, W 0 m H1) ∧ ∀ i m H, W i m H →
  (J.stop i H ∧ Nx H) ∨ (J.go i H ∧ ∃ Nx1 : Hp → Prop, (∀ H', Nx1 H' → ∃ m', m' < m ∧ W (i + 1) m' H') ∧ ∀ x H', J.yld i H x H' → g x (wipe σ vs) H' fun σ2 H2 => wipe σ2 vs = wipe σ vs ∧ tt σ2 H2 fun b H3 =>
    if b = true then te σ2 H3 fun y H4 => ∃ acc, H4 D = some (.lst acc) ∧ acc.length < sizeLine ∧ Nx1 (upd H4 D (.lst (acc ++ [y]))) else Nx1 H3)
/-- the inner for over a list or a tuple -/
theorem lcin_sq {K : PySem.W.Frag} {a : Addr} {xs : List V} {g : TG} {tt : TT} {te : TE} {vs : List Nat} {σ : L2.St} {H H0 : Hp} {D : Addr} {Nx : Hp → Prop} (out : Nat → List V) (hq : Sq K H0 a xs) (h0 : LcI H0 D (out 0) H)
    (hs : ∀ i x H', xs[i]? = some x → LcI H0 D (out i) H' → g x (wipe σ vs) H' fun σ2 H2 => wipe σ2 vs = wipe σ vs ∧ tt σ2 H2 fun b H3 =>
      if b = true then te σ2 H3 fun y H4 => ∃ acc, H4 D = some (.lst acc) ∧ acc.length < sizeLine ∧ LcI H0 D (out (i + 1)) (upd H4 D (.lst (acc ++ [y]))) else LcI H0 D (out (i + 1)) H3)
    (hd : ∀ H', LcI H0 D (out xs.length) H' → Nx H') :
    ((∃ xs, SqL K H a xs) ∧ LcIn (Itl K a) g tt te vs σ H D Nx) ∨ ((∃ xs, SqT K H a xs) ∧ LcIn (Itt K a) g tt te vs σ H D Nx) := by
  rcases hq with hq | hq
  · refine .inl ⟨⟨xs, h0.1.seq hq⟩, lcin_it (walk_list (K := K) (a := a) (xs := xs)) (fun i => LcI H0 D (out i)) h0 (fun i H' hi p => p.1.seq hq) (fun i x H' H2 hi p y => ?_) fun H' p => hd H' p⟩
    obtain ⟨rfl, y⟩ := y
    exact hs i x H2 y p
  · refine .inr ⟨⟨xs, grow_sqT (grow_same h0.1) hq⟩, lcin_it (walk_tup (K := K) (a := a) (xs := xs)) (fun i => LcI H0 D (out i)) h0 (fun i H' hi p => grow_sqT (grow_same p.1) hq) (fun i x H' H2 hi p y => ?_) fun H' p => hd H' p⟩
    obtain ⟨rfl, y⟩ := y
    exact hs i x H2 y p
abbrev Lc2R (J : It) (g : TG) (tt : TT) (wi1 : TI) (g1 : TG) (tt1 : TT) (te : TE) (vs vs1 : List Nat) (σ : L2.St) (H1 : Hp) (D : Addr) (Qd : Hp → Prop) : Prop := ∃ W : Nat → Nat → Hp → Prop, (∃ m, W 0 m (upd H1 D (.lst []))) ∧ ∀ i m H, W i m H →
  (J.stop i H ∧ Qd H) ∨ (J.go i H ∧ ∃ Nx : Hp → Prop, (∀ H', Nx H' → ∃ m', m' < m ∧ W (i + 1) m' H') ∧ ∀ x H', J.yld i H x H' → g x (wipe σ vs) H' fun σ2 H2 => wipe σ2 vs = wipe σ vs ∧ tt σ2 H2 fun b H3 =>
    if b = true then wi1 σ2 H3 fun J1 H4 => LcIn J1 g1 tt1 te vs1 σ2 H4 D Nx else Nx H3)
theorem lc2_it {J : It} {n : Nat} {G : Hp → Prop} {Y : Nat → Hp → V → Hp → Prop} (w : Walk J n G Y) {g : TG} {tt : TT} {wi1 : TI} {g1 : TG} {tt1 : TT} {te : TE} {vs vs1 : List Nat} {σ : L2.St} {H1 : Hp} {D : Addr} {Qd : Hp → Prop} (Pv : Nat → Hp → Prop) (h0 : Pv 0 (upd H1 D (.lst []))) (hG : ∀ i H, i ≤ n → Pv i H → G H)
    (hs : ∀ i x H H', i < n → Pv i H → Y i H x H' → g x (wipe σ vs) H' fun σ2 H2 => wipe σ2 vs = wipe σ vs ∧ tt σ2 H2 fun b H3 =>
      if b = true then wi1 σ2 H3 fun J1 H4 => LcIn J1 g1 tt1 te vs1 σ2 H4 D (Pv (i + 1)) else Pv (i + 1) H3) (hd : ∀ H, Pv n H → Qd H) :
    Lc2R J g tt wi1 g1 tt1 te vs vs1 σ H1 D Qd := by
  refine ⟨fun i m H => m = n - i ∧ i ≤ n ∧ Pv i H, ⟨n, by simp, Nat.zero_le _, h0⟩, ?_⟩
  rintro i m H ⟨rfl, hi, p⟩
  have q := hG i H hi p
  by_cases hlt : i < n
  · exact .inr ⟨w.goes i H hlt q, Pv (i + 1), fun H' p' => ⟨n - (i + 1), by omega, rfl, hlt, p'⟩, fun x H' y => hs i x H H' hlt p (w.yields i H x H' hlt q y)⟩
  · have e : i = n := by omega
    subst e
    exact .inl ⟨w.stops H q, hd H p⟩
theorem lc2_sq {K : PySem.W.Frag} {a : Addr} {xs : List V} {g : TG} {tt : TT} {wi1 : TI} {g1 : TG} {tt1 : TT} {te : TE} {vs vs1 : List Nat} {σ : L2.St} {H : Hp} {Qd : Addr → Hp → Prop} (out : Nat → List V) (hq : Sq K H a xs) (h0 : out 0 = [])
    (hs : ∀ D, H D = none → ∀ i x H', xs[i]? = some x → LcI H D (out i) H' → g x (wipe σ vs) H' fun σ2 H2 => wipe σ2 vs = wipe σ vs ∧ tt σ2 H2 fun b H3 =>
      if b = true then wi1 σ2 H3 fun J1 H4 => LcIn J1 g1 tt1 te vs1 σ2 H4 D (LcI H D (out (i + 1))) else LcI H D (out (i + 1)) H3)
    (hd : ∀ D H', H D = none → LcI H D (out xs.length) H' → Qd D H') :
    ((∃ xs, SqL K H a xs) ∧ ∀ D, H D = none → Lc2R (Itl K a) g tt wi1 g1 tt1 te vs vs1 σ H D (Qd D)) ∨ ((∃ xs, SqT K H a xs) ∧ ∀ D, H D = none → Lc2R (Itt K a) g tt wi1 g1 tt1 te vs vs1 σ H D (Qd D)) := by
  rcases hq with hq | hq
  · refine .inl ⟨⟨xs, hq⟩, fun D hD => lc2_it (walk_list (K := K) (a := a) (xs := xs)) (fun i => LcI H D (out i)) (by rw [h0]; exact lci_0 hD) (fun i H' hi p => p.1.seq hq) (fun i x H' H2 hi p y => ?_) fun H' p => hd D H' hD p⟩
    obtain ⟨rfl, y⟩ := y
    exact hs D hD i x H2 y p
  · refine .inr ⟨⟨xs, hq⟩, fun D hD => lc2_it (walk_tup (K := K) (a := a) (xs := xs)) (fun i => LcI H D (out i)) (by rw [h0]; exact lci_0 hD) (fun i H' hi p => grow_sqT (grow_same p.1) hq) (fun i x H' H2 hi p y => ?_) fun H' p => hd D H' hD p⟩
    obtain ⟨rfl, y⟩ := y
    exact hs D hD i x H2 y p
end Say

set_option Elab.async false
set_option linter.all false
set_option maxRecDepth 100000
set_option maxHeartbeats 4000000
/-! lists of data that grow -/
namespace Say
open PySem PySem.Spec PyProof.Rows L2
/-- at D stands a list of our own, its items are data -/
def LD (K : PySem.W.Frag) (H : Hp) (D : Addr) (ds : List PyData) : Prop := ∃ vs, H D = some (.lst vs) ∧ DpAll K H vs ds
theorem firmAll_map {α : Type} {f : α → PyData} (h : ∀ x, firm (f x) = true) : ∀ l : List α, firmAll (l.map f) = true
  | [] => rfl
  | x :: l => by
    rw [List.map_cons]
    show (firm (f x) && firmAll (l.map f)) = true
    rw [h x, firmAll_map h l]
    rfl
theorem firmAll_app : ∀ {a b : List PyData}, firmAll a = true → firmAll b = true → firmAll (a ++ b) = true
  | [], _, _, h => h
  | x :: a, b, h, k => by
    have h' : (firm x && firmAll a) = true := h
    rw [Bool.and_eq_true] at h'
    show (firm x && firmAll (a ++ b)) = true
    rw [h'.1, firmAll_app h'.2 k]
    rfl
theorem firm_mem : ∀ {ds : List PyData}, firmAll ds = true → ∀ d ∈ ds, firm d = true
  | x :: a, h, d, hd => by
    have h' : (firm x && firmAll a) = true := h
    rw [Bool.and_eq_true] at h'
    rcases List.mem_cons.mp hd with rfl | hd
    · exact h'.1
    · exact firm_mem h'.2 d hd
theorem LD.len {K : PySem.W.Frag} {H : Hp} {D : Addr} {ds : List PyData} {vs : List V} (h : DpAll K H vs ds) : vs.length = ds.length := dpAll_len h
theorem LD.sq {K : PySem.W.Frag} {H : Hp} {D : Addr} {ds : List PyData} (h : LD K H D ds) : ∃ vs, SqL K H D vs ∧ DpAll K H vs ds := let ⟨vs, h1, h2⟩ := h; ⟨vs, SqL.of h1, h2⟩
theorem LD.same {K : PySem.W.Frag} {H H' : Hp} {D : Addr} {ds : List PyData} (s : Same H H') (h : LD K H D ds) : LD K H' D ds := by
  obtain ⟨vs, h1, h2⟩ := h
  exact ⟨vs, s _ _ h1, dpAll_mono s _ _ h2⟩
theorem LD.grow {K : PySem.W.Frag} {H H' : Hp} {D : Addr} {ds : List PyData} (g : Grow H H') (e : H' D = H D) (f : firmAll ds = true) (h : LD K H D ds) : LD K H' D ds := by
  obtain ⟨vs, h1, h2⟩ := h
  exact ⟨vs, e.trans h1, dpAll_grow g _ _ f h2⟩
/-- an object of another kind, or another list, is written -/
theorem LD.other {K : PySem.W.Frag} {H : Hp} {D l : Addr} {ds : List PyData} {o : HO} (h : LD K H D ds) (g : Grow H (upd H l o)) (n : D ≠ l) (f : firmAll ds = true) : LD K (upd H l o) D ds := h.grow g (upd_ne n) f
theorem LD.push {K : PySem.W.Frag} {H : Hp} {D : Addr} {vs : List V} {ds : List PyData} {y : V} {d : PyData} (h1 : H D = some (.lst vs)) (h2 : DpAll K H vs ds) (hy : Dp K H y d) (f : firmAll ds = true) (fd : firm d = true) :
    LD K (upd H D (.lst (vs ++ [y]))) D (ds ++ [d]) :=
  ⟨_, upd_same, dpAll_app (dpAll_grow (grow_lst h1) _ _ f h2) (.cons (dp_grow (grow_lst h1) _ _ fd hy) .nil)⟩
theorem LD.new {K : PySem.W.Frag} {H : Hp} {D : Addr} : LD K (upd H D (.lst [])) D [] := ⟨[], upd_same, .nil⟩
/-- the heap of a comprehension of data -/
def LcD (K : PySem.W.Frag) (H0 : Hp) (D : Addr) (ds : List PyData) (H : Hp) : Prop := Same H0 H ∧ LD K H D ds
theorem lcd_step {K : PySem.W.Frag} {H0 H H1 : Hp} {D : Addr} {ds es : List PyData} {y : V} {d : PyData} (h : LcD K H0 D ds H) (s : Same H H1) (n : H0 D = none) (hl : ds.length < sizeLine) (f : firmAll ds = true) (fd : firm d = true) (hy : Dp K H1 y d) (e : es = ds ++ [d]) :
    ∃ acc, H1 D = some (.lst acc) ∧ acc.length < sizeLine ∧ LcD K H0 D es (upd H1 D (.lst (acc ++ [y]))) := by
  obtain ⟨s0, vs, h1, h2⟩ := h
  have h2' := dpAll_mono s _ _ h2
  refine ⟨vs, s _ _ h1, by rw [dpAll_len h2]; exact hl, same_upd (same_trans' s0 s) n, ?_⟩
  rw [e]
  exact LD.push (s _ _ h1) h2' hy f fd
where
  same_trans' {H H1 H2 : Hp} (a : Same H H1) (b : Same H1 H2) : Same H H2 := fun x o h => b x o (a x o h)
theorem lc_sqD {K : PySem.W.Frag} {a : Addr} {xs : List V} {g : TG} {tt : TT} {te : TE} {vs : List Nat} {σ : L2.St} {H : Hp} {Qd : Addr → Hp → Prop} (out : Nat → List PyData) (hq : Sq K H a xs) (h0 : out 0 = [])
    (hs : ∀ D, H D = none → ∀ i x H', xs[i]? = some x → LcD K H D (out i) H' → g x (wipe σ vs) H' fun σ2 H2 => wipe σ2 vs = wipe σ vs ∧ tt σ2 H2 fun b H3 =>
      if b = true then te σ2 H3 fun y H4 => ∃ acc, H4 D = some (.lst acc) ∧ acc.length < sizeLine ∧ LcD K H D (out (i + 1)) (upd H4 D (.lst (acc ++ [y]))) else LcD K H D (out (i + 1)) H3)
    (hd : ∀ D H', H D = none → LcD K H D (out xs.length) H' → Qd D H') :
    ((∃ xs, SqL K H a xs) ∧ ∀ D, H D = none → LcR (Itl K a) g tt te vs σ H D (Qd D)) ∨ ((∃ xs, SqT K H a xs) ∧ ∀ D, H D = none → LcR (Itt K a) g tt te vs σ H D (Qd D)) := by
  have st : ∀ D, H D = none → LcD K H D (out 0) (upd H D (.lst [])) := fun D hD => by
    rw [h0]
    exact ⟨same_new hD, LD.new⟩
  rcases hq with hq | hq
  · refine .inl ⟨⟨xs, hq⟩, fun D hD => lc_it (walk_list (K := K) (a := a) (xs := xs)) (fun i => LcD K H D (out i)) (st D hD) (fun i H' hi p => p.1.seq hq) (fun i x H' H2 hi p y => ?_) fun H' p => hd D H' hD p⟩
    obtain ⟨rfl, y⟩ := y
    exact hs D hD i x H2 y p
  · refine .inr ⟨⟨xs, hq⟩, fun D hD => lc_it (walk_tup (K := K) (a := a) (xs := xs)) (fun i => LcD K H D (out i)) (st D hD) (fun i H' hi p => grow_sqT (grow_same p.1) hq) (fun i x H' H2 hi p y => ?_) fun H' p => hd D H' hD p⟩
    obtain ⟨rfl, y⟩ := y
    exact hs D hD i x H2 y p
/-- a for over what is known to be a list -/
theorem for_sqL {K : PySem.W.Frag} {a : Addr} {xs : List V} {g : TG} {tb : TS} {D : Ends} {σ : L2.St} {H : Hp} (Pv : Nat → L2.St → Hp → Prop) (hq : SqL K H a xs) (h0 : Pv 0 σ H)
    (hl : ∀ i σ H', i ≤ xs.length → Pv i σ H' → SqL K H' a xs)
    (hs : ∀ i x σ H', xs[i]? = some x → Pv i σ H' → g x σ H' fun σ2 H2 => tb { D with nx := Pv (i + 1), ct := Pv (i + 1), bk := D.nx } σ2 H2) (hd : ∀ σ H', Pv xs.length σ H' → D.nx σ H') :
    ((∃ xs, SqL K H a xs) ∧ ForR (Itl K a) g tb D σ H) ∨ ((∃ xs, SqT K H a xs) ∧ ForR (Itt K a) g tb D σ H) := by
  refine .inl ⟨⟨xs, hq⟩, for_it (walk_list (K := K) (a := a) (xs := xs)) Pv h0 (fun i σ H' hi p => hl i σ H' hi p) (fun i x σ H' H2 hi p y => ?_) hd⟩
  obtain ⟨rfl, y⟩ := y
  exact hs i x σ H2 y p
/-- enumerate of a tuple, while tuples stay -/
theorem for_enT {K : PySem.W.Frag} {a : Addr} {xs : List V} {g : TG} {tb : TS} {D : Ends} {σ : L2.St} {H : Hp} (Pv : Nat → L2.St → Hp → Prop) (hq : SqT K H a xs) (h0 : Pv 0 σ H)
    (hl : ∀ i σ H', i ≤ xs.length → Pv i σ H' → Grow H H')
    (hs : ∀ i x σ H' T, xs[i]? = some x → Pv i σ H' → H' T = none → g (.ref T) σ (upd H' T (.tup [.int (i : Nat), x])) fun σ2 H2 => tb { D with nx := Pv (i + 1), ct := Pv (i + 1), bk := D.nx } σ2 H2) (hd : ∀ σ H', Pv xs.length σ H' → D.nx σ H') :
    ((∃ xs, SqL K H a xs) ∧ ForR (Ite K a) g tb D σ H) ∨ ((∃ xs, SqT K H a xs) ∧ ForR (IteT K a) g tb D σ H) := by
  refine .inr ⟨⟨xs, hq⟩, for_it (walk_enumT (K := K) (a := a) (xs := xs)) Pv h0 (fun i σ H' hi p => grow_sqT (hl i σ H' hi p) hq) (fun i x σ H' H2 hi p y => ?_) hd⟩
  obtain ⟨T, u, v, rfl, n, rfl, e1, e2⟩ := y
  cases e1
  exact hs i v σ H' T e2 p n
/-- no further argument -/
theorem nil_go {σ : L2.St} {H : Hp} {Q : List V → Hp → Prop} (h : Q [] H) : tNil σ H Q := h
/-- l.extend(m) -/
theorem ext_data {K : PySem.W.Frag} {H : Hp} {l m : Addr} {ds es : List PyData} {Q : VK} (hl : LD K H l ds) (hm : LD K H m es) (z : ds.length + es.length ≤ sizeLine) (f : firmAll ds = true) (g : firmAll es = true)
    (q : ∀ o, LD K (upd H l o) l (ds ++ es) → Grow H (upd H l o) → Q .non (upd H l o)) : rExtend (.ref l) [.ref m] H Q := by
  obtain ⟨vs, h1, h2⟩ := hl
  obtain ⟨us, k1, k2⟩ := hm
  have gr : Grow H (upd H l (.lst (vs ++ us))) := grow_lst h1
  exact ⟨l, m, vs, us, rfl, rfl, h1, k1, by rw [dpAll_len h2, dpAll_len k2]; exact z, q _ ⟨_, upd_same, dpAll_app (dpAll_grow gr _ _ f h2) (dpAll_grow gr _ _ g k2)⟩ gr⟩
/-- l.append(y) -/
theorem app_data {K : PySem.W.Frag} {H : Hp} {l : Addr} {ds : List PyData} {y : V} {d : PyData} {Q : VK} (hl : LD K H l ds) (hy : Dp K H y d) (z : ds.length < sizeLine) (f : firmAll ds = true) (g : firm d = true)
    (q : ∀ o, LD K (upd H l o) l (ds ++ [d]) → Grow H (upd H l o) → Q .non (upd H l o)) : rAppend (.ref l) [y] H Q := by
  obtain ⟨vs, h1, h2⟩ := hl
  exact ⟨l, vs, y, rfl, rfl, h1, by rw [dpAll_len h2]; exact z, q _ (LD.push h1 h2 hy f g) (grow_lst h1)⟩
theorem ld_at {K : PySem.W.Frag} {H : Hp} {l : Addr} {ds : List PyData} {i : Nat} {d : PyData} (h : LD K H l ds) (e : ds[i]? = some d) : ∃ vs v, SqL K H l vs ∧ vs[i]? = some v ∧ Dp K H v d := by
  obtain ⟨vs, h1, h2⟩ := h
  obtain ⟨v, e2, h3⟩ := dpAll_at h2 e
  exact ⟨vs, v, SqL.of h1, e2, h3⟩
/-- what is written is another object, so data lists stay -/
theorem Same.of_upd {H0 H : Hp} {l : Addr} {o : HO} (s : Same H0 H) (n : H0 l = none) : Same H0 (upd H l o) := same_upd s n
end Say

set_option Elab.async false
set_option linter.all false
set_option maxRecDepth 100000
set_option maxHeartbeats 4000000
/-! dicts of whole numbers: a comprehension over any walk; what is in -/
namespace Say
open PySem PySem.Spec PyProof.Rows L2
theorem dc_it {J : It} {n : Nat} {G : Hp → Prop} {Y : Nat → Hp → V → Hp → Prop} (w : Walk J n G Y) {g : TG} {tt : TT} {tk tv : TE} {vs : List Nat} {σ : L2.St} {H1 : Hp} {D : Addr} {Qd : Hp → Prop} (Pv : Nat → Hp → Prop) (h0 : Pv 0 (upd H1 D (.dK []))) (hG : ∀ i H, i ≤ n → Pv i H → G H)
    (hs : ∀ i x H H', i < n → Pv i H → Y i H x H' → g x (wipe σ vs) H' fun σ2 H2 => wipe σ2 vs = wipe σ vs ∧ tt σ2 H2 fun b H3 =>
      if b = true then tk σ2 H3 fun y H4 => tv σ2 H4 fun z H5 => ∃ kvs k, y = kV k ∧ H5 D = some (.dK kvs) ∧ kvs.length < sizeLine ∧ Pv (i + 1) (upd H5 D (.dK (putK kvs k z))) else Pv (i + 1) H3) (hd : ∀ H, Pv n H → Qd H) :
    ∃ W : Nat → Nat → Hp → Prop, (∃ m, W 0 m (upd H1 D (.dK []))) ∧ ∀ i m H, W i m H →
      (J.stop i H ∧ Qd H) ∨ (J.go i H ∧ ∃ Nx : Hp → Prop, (∀ H', Nx H' → ∃ m', m' < m ∧ W (i + 1) m' H') ∧ ∀ x H', J.yld i H x H' → g x (wipe σ vs) H' fun σ2 H2 => wipe σ2 vs = wipe σ vs ∧ tt σ2 H2 fun b H3 =>
        if b = true then tk σ2 H3 fun y H4 => tv σ2 H4 fun z H5 => ∃ kvs k, y = kV k ∧ H5 D = some (.dK kvs) ∧ kvs.length < sizeLine ∧ Nx (upd H5 D (.dK (putK kvs k z))) else Nx H3) := by
  refine ⟨fun i m H => m = n - i ∧ i ≤ n ∧ Pv i H, ⟨n, by simp, Nat.zero_le _, h0⟩, ?_⟩
  rintro i m H ⟨rfl, hi, p⟩
  have q := hG i H hi p
  by_cases hlt : i < n
  · exact .inr ⟨w.goes i H hlt q, Pv (i + 1), fun H' p' => ⟨n - (i + 1), by omega, rfl, hlt, p'⟩, fun x H' y => hs i x H H' hlt p (w.yields i H x H' hlt q y)⟩
  · have e : i = n := by omega
    subst e
    exact .inl ⟨w.stops H q, hd H p⟩
/-- over range(n) -/
theorem dc_range {lo : Int} {n : Nat} {g : TG} {tt : TT} {tk tv : TE} {vs : List Nat} {σ : L2.St} {H1 : Hp} {D : Addr} {Qd : Hp → Prop} (Pv : Nat → Hp → Prop) (h0 : Pv 0 (upd H1 D (.dK [])))
    (hs : ∀ i H, i < n → Pv i H → g (.int (lo + i)) (wipe σ vs) H fun σ2 H2 => wipe σ2 vs = wipe σ vs ∧ tt σ2 H2 fun b H3 =>
      if b = true then tk σ2 H3 fun y H4 => tv σ2 H4 fun z H5 => ∃ kvs k, y = kV k ∧ H5 D = some (.dK kvs) ∧ kvs.length < sizeLine ∧ Pv (i + 1) (upd H5 D (.dK (putK kvs k z))) else Pv (i + 1) H3) (hd : ∀ H, Pv n H → Qd H) :
    ∃ W : Nat → Nat → Hp → Prop, (∃ m, W 0 m (upd H1 D (.dK []))) ∧ ∀ i m H, W i m H →
      ((Itr lo n).stop i H ∧ Qd H) ∨ ((Itr lo n).go i H ∧ ∃ Nx : Hp → Prop, (∀ H', Nx H' → ∃ m', m' < m ∧ W (i + 1) m' H') ∧ ∀ x H', (Itr lo n).yld i H x H' → g x (wipe σ vs) H' fun σ2 H2 => wipe σ2 vs = wipe σ vs ∧ tt σ2 H2 fun b H3 =>
        if b = true then tk σ2 H3 fun y H4 => tv σ2 H4 fun z H5 => ∃ kvs k, y = kV k ∧ H5 D = some (.dK kvs) ∧ kvs.length < sizeLine ∧ Nx (upd H5 D (.dK (putK kvs k z))) else Nx H3) := by
  refine ⟨fun i m H => m = n - i ∧ i ≤ n ∧ Pv i H, ⟨n, by simp, Nat.zero_le _, h0⟩, ?_⟩
  rintro i m H ⟨rfl, hi, p⟩
  by_cases hlt : i < n
  · refine .inr ⟨hlt, Pv (i + 1), fun H' p' => ⟨n - (i + 1), by omega, rfl, hlt, p'⟩, fun x H' y => ?_⟩
    obtain ⟨e, y⟩ := y
    subst e y
    exact hs i _ hlt p
  · have e : i = n := by omega
    subst e
    exact .inl ⟨Nat.le_refl _, hd H p⟩
section
variable {X : Cx}
/-- y = {k: v for ..} -/
theorem ps_setDc {i : Nat} {y : Str} {py : Pos} {kx vx tg iter : Expr} {ifs : List Expr} {scope : Scope} {own : List (Str × Nat)} {pos spos : Pos} {wi : TI} {g : TG} {tt : TT} {tk tv : TE} (hc : X.calm = true) (hN : X.N.Nodup) (hy : X.N[i]? = some y) (hyl : X.env.scope.names.lookup y = some .local)
    (hsw : swapsWith (.DictComp kx vx [⟨tg, iter, ifs, 0⟩] scope pos) (some (.Name y py)) spos.line X.env = pure true) (hi : PI X tg iter wi) (ok : BlkOk X.N X.env.scope scope own)
    (hg : ∀ (s : Shared) (H : Hp) (C : Addr) (cl : List (Str × Addr)) (fp : List Addr), PG (X.blk s H scope (compEnvC scope cl C X.env) fp) tg g) (ht : ∀ (s : Shared) (H : Hp) (C : Addr) (cl : List (Str × Addr)) (fp : List Addr), PTs (X.blk s H scope (compEnvC scope cl C X.env) fp) ifs tt)
    (hk : ∀ (s : Shared) (H : Hp) (C : Addr) (cl : List (Str × Addr)) (fp : List Addr), PE (X.blk s H scope (compEnvC scope cl C X.env) fp) kx tk)
    (he : ∀ (s : Shared) (H : Hp) (C : Addr) (cl : List (Str × Addr)) (fp : List Addr), PE (X.blk s H scope (compEnvC scope cl C X.env) fp) vx tv) (hs : ∀ x, foldedSetIterable iter X.env x = pure x := by intro _; rfl) :
    PS X (.Assign [.Name y py] (.DictComp kx vx [⟨tg, iter, ifs, 0⟩] scope pos) spos) (tAsg (tDc wi g tt tk tv (own.map (·.2))) (gName i)) := by
  refine ⟨fun pins s σ H D I h => ?_⟩
  rw [exec_Assign_Name_used _ _ _ _ hsw]
  refine wpAny_bind (wpAny_standAt (wpAny_bind ?_))
  show wpAny _ X.A (do let _ ← comprehension (.DictComp kx vx [⟨tg, iter, ifs, 0⟩] scope pos) scope X.env (firstIterPos [⟨tg, iter, ifs, 0⟩] pos) newDict false (eval iter X.env) (some (assign (.Name y py) X.env))) _ _ s
  have h : tDc wi g tt tk tv (own.map (·.2)) σ H (fun x H1 => gName i x σ H1 D.nx) := h
  refine wpAny_bind (thn (dc_core (Qf := fun _ s' => SP X pins D .next s') hc hN I hi ok hg ht hk he hs h fun L C s' m H' I' q hn f => ?_) fun _ s' hq => wpAny_pure (wpAny_pure hq))
  show wpAny _ _ (assign (.Name y py) X.env (.ref L)) _ _ _
  refine wpAny_assign_Name (store_ok2 (v := V.ref L) I' hN hy (.inl hyl) rfl (fun s2 I2 ⟨a, sb, ha⟩ => ?_) (.inr hyl))
  obtain ⟨f0, f1, f2, f3, f4, f5⟩ := f
  have haC : C ≠ a := by
    rcases ha with z | z
    · rw [z]; exact f1
    · exact fun e => f4 y a z e.symm
  refine ⟨m, hn.sameBut sb haC, fun h3 sb3 => ?_⟩
  exact ⟨_, H', I2.turned (t' := s2.toks) (fun b o hb e => (sb3.2 b hb).trans e) f0 f1 f3 f4 f5, q⟩
theorem sw_trueD {kx vx : Expr} {gs : List Comprehension} {scope : Scope} {pos py : Pos} {y : Str} {l : Nat} {env : Env} (hk : env.scope.kind = .function) (hy : env.scope.names.lookup y = some .local) (hl : (py.line == pos.line) = true)
    (ha : (scope.names.any fun (n, k) => n == y && (k == .local || k == .cell)) = false) : swapsWith (.DictComp kx vx gs scope pos) (some (.Name y py)) l env = pure true := by
  have ky : env.kindOf y = some .local := hy
  have hb : env.blockKind = .function := by unfold Env.blockKind; rw [hk]; rfl
  unfold swapsWith
  simp only [hb, ky, ha, Expr.pos, hl]
  rfl
end
/-- which whole numbers are keys -/
def Keyed (kvs : List (Key × V)) (nd : List Nat) : Prop := (∀ i : Nat, (valV kvs (.inl (i : Int))).isSome = decide (i ∈ nd)) ∧ kvs.length ≤ nd.length
theorem Keyed.put {kvs : List (Key × V)} {nd : List Nat} (h : Keyed kvs nd) (i : Nat) (v : V) : Keyed (putK kvs (.inl (i : Int)) v) (nd ++ [i]) := by
  refine ⟨fun j => ?_, ?_⟩
  · rw [valV_put]
    by_cases e : j = i
    · subst e
      simp
    · have e2 : ¬ (Sum.inl (j : Int) : Key) = Sum.inl (i : Int) := fun z => e (by have := Sum.inl.inj z; omega)
      rw [if_neg e2, h.1 j]
      simp [e]
  · have := length_putK kvs (.inl (i : Int)) v
    have := h.2
    rw [List.length_append]
    simp only [List.length_cons, List.length_nil]
    omega
theorem grow_dK' {H : Hp} {p : Addr} {xs : List (Key × V)} {o : HO} (h : H p = some (.dK xs)) : Grow H (upd H p o) := grow_dK h
end Say

set_option Elab.async false
set_option linter.all false
set_option maxRecDepth 100000
set_option maxHeartbeats 4000000
/-! errors with an own __init__ of one field: made, raised -/
namespace Say
open PySem PySem.Spec PyProof.Rows L2
structure IniEnd (C a dx : Addr) (fs : List (Str × V)) (H H' : Hp) : Prop where
  obj : H' a = some (exo a C (some dx))
  dic : H' dx = some (exd dx fs)
  old : ∀ b, b ≠ a → b ≠ dx → H' b = H b
def spIni (f : Str) (C : Addr) : Sp := fun vs H Q _ => ∃ (a : Addr) (y : V), vs = [.ref a, y] ∧ H a = some (exo a C none) ∧
  ∀ (dx : Addr) (H' : Hp), H dx = none → dx ≠ a → IniEnd C a dx [(f, y)] H H' → Q .non H'
theorem ini_end {C a dx : Addr} {f : Str} {y : V} {H : Hp} (ne : dx ≠ a) : IniEnd C a dx [(f, y)] H (upd (upd H a (exo a C (some dx))) dx (exd dx [(f, y)])) :=
  ⟨by rw [upd_ne ne.symm, upd_same], upd_same, fun b na nd => by rw [upd_ne nd, upd_ne na]⟩
theorem raise_mid {Ca a dx : Addr} {fs : List (Str × V)} {H H' : Hp} (hn : H a = none) (nd : upd H a (exo a Ca none) dx = none) (ne : dx ≠ a) (I : IniEnd Ca a dx fs (upd H a (exo a Ca none)) H') :
    H dx = none ∧ Same H (upd (del H' a) dx (.xd fs)) ∧ upd (del H' a) dx (.xd fs) dx = some (.xd fs) := by
  have nd' : H dx = none := by
    rw [upd_ne ne] at nd
    exact nd
  refine ⟨nd', fun b o q => ?_, upd_same⟩
  have nb : b ≠ a := ne_of_none q hn
  have nb2 : b ≠ dx := ne_of_none q nd'
  rw [upd_ne nb2, del_ne nb, I.old b nb nb2, upd_ne nb]
  exact q
/-- the reading of raise C(v), v reckoned -/
theorem ini_go {Ca : Addr} {f : Str} {H : Hp} {v : V} {Q : XK} (k : ∀ dd H', Same H H' → H' dd = some (.xd [(f, v)]) → Q (.ref Ca) (some dd) H') :
    ([v] : List V).length ≤ 1000 ∧ ∀ a, H a = none → spIni f Ca (.ref a :: ([v] ++ [])) (upd H a (exo a Ca none))
      (fun v H2 => v = .non ∧ ∃ (d : Addr) (fs : List (Str × V)), H2 a = some (exo a Ca (some d)) ∧ H2 d = some (exd d fs) ∧ H d = none ∧ Q (.ref Ca) (some d) (upd (del H2 a) d (.xd fs))) (fun _ _ _ => False) := by
  refine ⟨Nat.le_of_ble_eq_true rfl, fun a hn => ⟨a, v, rfl, upd_same, fun dx H' nd ne I => ?_⟩⟩
  obtain ⟨n1, s1, e1⟩ := raise_mid hn nd ne I
  exact ⟨rfl, dx, _, I.obj, I.dic, n1, k dx _ s1 e1⟩
/-- enumerate, while what stood at an elder heap stays -/
theorem for_enS {K : PySem.W.Frag} {a : Addr} {xs : List V} {g : TG} {tb : TS} {D : Ends} {σ : L2.St} {H0 H : Hp} (Pv : Nat → L2.St → Hp → Prop) (hq : Sq K H0 a xs) (h0 : Pv 0 σ H)
    (hl : ∀ i σ H', i ≤ xs.length → Pv i σ H' → Same H0 H')
    (hs : ∀ i x σ H' T, xs[i]? = some x → Pv i σ H' → H' T = none → g (.ref T) σ (upd H' T (.tup [.int (i : Nat), x])) fun σ2 H2 => tb { D with nx := Pv (i + 1), ct := Pv (i + 1), bk := D.nx } σ2 H2) (hd : ∀ σ H', Pv xs.length σ H' → D.nx σ H') :
    ((∃ xs, SqL K H a xs) ∧ ForR (Ite K a) g tb D σ H) ∨ ((∃ xs, SqT K H a xs) ∧ ForR (IteT K a) g tb D σ H) := by
  have s0 := hl 0 σ H (Nat.zero_le _) h0
  have st : ∀ i x σ H' H2, i < xs.length → Pv i σ H' → YPair (fun i => some (.int (i : Nat))) (fun i => xs[i]?) i H' x H2 → g x σ H2 fun σ2 H2 => tb { D with nx := Pv (i + 1), ct := Pv (i + 1), bk := D.nx } σ2 H2 := fun i x σ H' H2 hi p y => by
    obtain ⟨T, u, v, rfl, n, rfl, e1, e2⟩ := y
    cases e1
    exact hs i v σ H' T e2 p n
  rcases hq with hq | hq
  · exact .inl ⟨⟨xs, s0.seq hq⟩, for_it (walk_enum (K := K) (a := a) (xs := xs)) Pv h0 (fun i σ H' hi p => (hl i σ H' hi p).seq hq) st hd⟩
  · exact .inr ⟨⟨xs, grow_sqT (grow_same s0) hq⟩, for_it (walk_enumT (K := K) (a := a) (xs := xs)) Pv h0 (fun i σ H' hi p => grow_sqT (grow_same (hl i σ H' hi p)) hq) st hd⟩
theorem for_sqS {K : PySem.W.Frag} {a : Addr} {xs : List V} {g : TG} {tb : TS} {D : Ends} {σ : L2.St} {H0 H : Hp} (Pv : Nat → L2.St → Hp → Prop) (hq : Sq K H0 a xs) (h0 : Pv 0 σ H)
    (hl : ∀ i σ H', i ≤ xs.length → Pv i σ H' → Same H0 H')
    (hs : ∀ i x σ H', xs[i]? = some x → Pv i σ H' → g x σ H' fun σ2 H2 => tb { D with nx := Pv (i + 1), ct := Pv (i + 1), bk := D.nx } σ2 H2) (hd : ∀ σ H', Pv xs.length σ H' → D.nx σ H') :
    ((∃ xs, SqL K H a xs) ∧ ForR (Itl K a) g tb D σ H) ∨ ((∃ xs, SqT K H a xs) ∧ ForR (Itt K a) g tb D σ H) := by
  have s0 := hl 0 σ H (Nat.zero_le _) h0
  rcases hq with hq | hq
  · refine .inl ⟨⟨xs, s0.seq hq⟩, for_it (walk_list (K := K) (a := a) (xs := xs)) Pv h0 (fun i σ H' hi p => (hl i σ H' hi p).seq hq) (fun i x σ H' H2 hi p y => ?_) hd⟩
    obtain ⟨rfl, y⟩ := y
    exact hs i x σ H2 y p
  · refine .inr ⟨⟨xs, grow_sqT (grow_same s0) hq⟩, for_it (walk_tup (K := K) (a := a) (xs := xs)) Pv h0 (fun i σ H' hi p => grow_sqT (grow_same (hl i σ H' hi p)) hq) (fun i x σ H' H2 hi p y => ?_) hd⟩
    obtain ⟨rfl, y⟩ := y
    exact hs i x σ H2 y p
end Say

set_option Elab.async false
set_option linter.all false
set_option pp.maxSteps 800
set_option pp.deepTerms false
set_option maxRecDepth 100000
set_option maxHeartbeats 4000000
/-! lambdas without parameters as values, called by a local name within the def that made them -/
namespace Say
open PySem PySem.Spec PyProof.Rows L2 LamX
/-- a lambda: what is written of it -/
structure Lm where
  ps : Arguments
  bd : Expr
  sc : Scope
abbrev lmObj (X : Cx) (b : Lm) (pm ctv : Value) (c : Addr) : Obj := PySem.W.kla_obj "<lambda>" (X.env.qual ++ "<lambda>") b.ps b.bd b.sc (cloFrom X.env.cells b.sc.names []) pm c ctv
/-- at f stands the lambda b, made in X, c its code -/
def LamO (X : Cx) (f : Addr) (b : Lm) (pm ctv : Value) (c : Addr) : HO := .ext fun h => h.get? f = some (lmObj X b pm ctv c)
theorem lamO_ok {X : Cx} {P : Program} {w : World} {H : Hp} {h : Heap} {f : Addr} {b : Lm} {pm ctv : Value} {c : Addr} (e : h.get? f = some (lmObj X b pm ctv c)) : ObjOk P w H h f (LamO X f b pm ctv c) := ⟨e, ⟨_, e⟩, fun h1 h2 p k => k _ p⟩
theorem lamO_ne {X : Cx} {f : Addr} {b : Lm} {pm ctv : Value} {c : Addr} (ps : Array Value) : LamO X f b pm ctv c ≠ .tbl ps := fun z => by
  unfold LamO at z
  cases z
/-- at f stands some lambda b made in X, its code known -/
def IsLam (X : Cx) (H : Hp) (f : Addr) (b : Lm) : Prop := ∃ (pm ctv : Value) (c : Addr), H f = some (LamO X f b pm ctv c) ∧ H c = some (CodeO c (X.env.qual ++ "<lambda>"))
theorem IsLam.ext {X : Cx} {H H' : Hp} {f : Addr} {b : Lm} (h : IsLam X H f b) (e : ExtN H H') : IsLam X H' f b := by
  obtain ⟨pm, ctv, c, h1, h2⟩ := h
  exact ⟨pm, ctv, c, e _ _ h1 lamO_ne, e _ _ h2 codeO_ne⟩
/-- the table P tells codes of the name q; no other table is spoken of -/
abbrev Tb (P : Addr) (q : Str) (H : Hp) : Prop := TabS H P q
section
variable {X : Cx} {pins : List (Addr × Obj)} {σ : L2.St} {H : Hp} {s : Shared}
def tLamV (X : Cx) (P : Addr) (b : Lm) : TE := fun _ H Q => Tb P (X.env.qual ++ "<lambda>") H ∧ ∀ (f : Addr) (H1 : Hp), H f = none → ExtN H H1 → Tb P (X.env.qual ++ "<lambda>") H1 → IsLam X H1 f b → Q (.ref f) H1
theorem made_there {P c f : Addr} {q : Str} {ps : Array Value} {b : Lm} {pm ctv : Value} {H0 : Hp} (e0 : ExtN H H0) (t0 : TabS H0 P q) (nf : H0 f = none) : ExtN H (upd H0 f (LamO X f b pm ctv c)) ∧ TabS (upd H0 f (LamO X f b pm ctv c)) P q := by
  have st : ∀ a o, H0 a = some o → upd H0 f (LamO X f b pm ctv c) a = some o := fun a o e => by
    rw [upd_ne (ne_of_none e nf)]
    exact e
  exact ⟨e0.trans (ExtN.of st), t0.ext st⟩
/-- a lambda as a value -/
theorem pe_lam {P c : Addr} {b : Lm} {pos : Pos} (TB : TabB X.base X.mg c P) (hcode : X.env.code = .ref c) (L : LamS X.env.scope b.sc) (hdef : defaultsOf b.ps X.env = ([], []) := by rfl) : PE X (.Lambda b.ps b.bd b.sc pos) (tLamV X P b) := by
  refine ⟨fun pins s σ H Q I hh => ?_⟩
  obtain ⟨hT, go⟩ := hh
  have clo := closure_ok (L.has I.ok)
  obtain ⟨ps, hP, ht, ha⟩ := id hT
  have at1 : s.heap.get? P = some { cls := .none, data := .fields ps } := I.hok P _ hP
  have bi : s.heap.BuiltinsAt X.mg P := TB.bm.keeps I.bk
  have gl := I.mod.glob.keeps I.bk
  have hd := TB.code.keeps I.bk
  have fresh : ∀ {h' : Heap} {H0 : Hp} {t : Nat}, HOk X.prog X.w H0 h' → H0 h'.objs.size = none := fun hk => hk.fresh (Nat.le_refl _)
  refine PySem.W.kla_eval hdef ?_
  cases hc : codeAmong pos ps.toList with
  | some cv =>
    obtain ⟨c', e, hco⟩ := ha pos cv hc
    cases e
    refine PySem.W.kla_makeFunctionHit (mg := X.mg) (c := c) (P := P) (ps := ps) clo I.ok.glob gl hcode hd at1 ht hc bi fun ctv h' tk hx hsz => ?_
    have I0 : Inv X pins σ H { s with heap := h', toks := tk } := I.kept fun a o e => hx a o e
    have nf : H h'.objs.size = none := I0.hok.fresh (Nat.le_refl _)
    have I1 := I0.laid (a := h'.objs.size) (o := LamO X h'.objs.size b ((X.mg "__name__").getD .none) ctv c') (t' := tk) (h' := h'.push (lmObj X b ((X.mg "__name__").getD .none) ctv c')) (fun a u e => Heap.get?_push_of_some _ e) (Nat.le_refl _) (lamO_ok (Heap.get?_push_size _ rfl))
    obtain ⟨e1, t1⟩ := made_there (X := X) (b := b) (pm := (X.mg "__name__").getD .none) (ctv := ctv) (c := c') (ps := ps) (ExtN.refl H) hT nf
    exact ⟨.ref _, _, I1, rfl, go _ _ nf e1 t1 ⟨_, _, c', upd_same, e1 _ _ hco codeO_ne⟩⟩
  | none =>
    refine PySem.W.kla_makeFunction (mg := X.mg) (c := c) (P := P) (ps := ps) clo I.ok.glob gl hcode hd at1 ht hc TB.gP bi fun c' ctv h' tk hx hge hlt hrec htb => ?_
    obtain ⟨c2, oc, vs, t, e2, hoc, hdt, hv⟩ := hrec
    cases e2
    have I0 := inv_table (q := X.env.qual ++ "<lambda>") (t' := tk) (more := #[rawInt pos.line, rawInt pos.col, .ref c']) (h' := h') I hP hx htb hge ⟨oc, vs, t, hoc, hdt, hv⟩
    have nC : H c' = none := I.hok.fresh hge
    have hE : ExtN H (upd (upd H P (.tbl (ps ++ #[rawInt pos.line, rawInt pos.col, .ref c']))) c' (CodeO c' (X.env.qual ++ "<lambda>"))) := fun a o e n => by
      have n1 : a ≠ P := fun z => by
        rw [z, hP] at e
        exact n ps (Option.some.inj e).symm
      rw [upd_ne (ne_of_none e nC), upd_ne n1]
      exact e
    have t0 : TabS (upd (upd H P (.tbl (ps ++ #[rawInt pos.line, rawInt pos.col, .ref c']))) c' (CodeO c' (X.env.qual ++ "<lambda>"))) P (X.env.qual ++ "<lambda>") := by
      have eL : (ps ++ #[rawInt pos.line, rawInt pos.col, .ref c']).toList = ps.toList ++ [rawInt pos.line, rawInt pos.col, .ref c'] := by simp
      refine ⟨_, by rw [upd_ne (ne_of_none hP nC), upd_same], by rw [eL]; exact PySem.TriplesOk_snoc _ _ _ _ ht, fun p2 cv hcv => ?_⟩
      rw [eL] at hcv
      rcases among_app _ ht hcv with z | z
      · obtain ⟨c0, z1, z2⟩ := ha p2 cv z
        exact ⟨c0, z1, hE _ _ z2 codeO_ne⟩
      · exact ⟨c', z, upd_same⟩
    have nf := I0.hok.fresh (Nat.le_refl h'.objs.size)
    have nfH : H h'.objs.size = none := by
      refine I.hok.fresh (Nat.le_trans hge (Nat.le_of_lt hlt))
    have I1 := I0.laid (a := h'.objs.size) (o := LamO X h'.objs.size b ((X.mg "__name__").getD .none) ctv c') (t' := tk) (h' := h'.push (lmObj X b ((X.mg "__name__").getD .none) ctv c')) (fun a u e => Heap.get?_push_of_some _ e) (Nat.le_refl _) (lamO_ok (Heap.get?_push_size _ rfl))
    obtain ⟨e1, t1⟩ := made_there (X := X) (b := b) (pm := (X.mg "__name__").getD .none) (ctv := ctv) (c := c') (ps := ps) hE t0 nf
    refine ⟨.ref _, _, I1, rfl, go _ _ nfH e1 t1 ⟨_, _, c', upd_same, ?_⟩⟩
    rw [upd_ne (ne_of_none upd_same nf)]
    exact upd_same
/-- what is asked of a lambda's body -/
structure LmOk (X : Cx) (k : Nat) (E : XK) (b : Lm) (tb : TE) : Prop where
  own : LamS X.env.scope b.sc
  bind : ∀ (q : Str) (cl : List (Str × Addr)) (pm cv ctv : Value), bindArgs (PySem.W.kla_fn "<lambda>" q b.ps b.bd b.sc cl pm cv ctv) ⟨[], []⟩ = pure []
  body : ∀ (A : Around) (ou : List Env) (s : Shared) (H : Hp) (f c : Addr), Room k (A.deeper (lamEnv X b.sc s.heap.objs.size f c)) → PE (lamCx X A ou s H E b.sc f c) b.bd tb
/-- x(), x a local that holds one of two lambdas -/
def tCallLam (X : Cx) (i : Nat) (b1 b2 : Lm) (t1 t2 : TE) : TE := fun σ H Q => ∃ f, σ[i]? = some (some (.ref f)) ∧ ((IsLam X H f b1 ∧ t1 σ H Q) ∨ (IsLam X H f b2 ∧ t2 σ H Q))
theorem lam_one {k : Nat} {W : WX} {E : XK} {b : Lm} {tb : TE} {f : Addr} {Q : VK} (tk : Takes X W) (hW : ∀ cls d σ H, E cls d H → W cls d σ H) (hr : Room (k + 1) X.A) (B : LmOk X k E b tb) (I : Inv X pins σ H s) (hl : IsLam X H f b) (q : tb σ H Q) :
    wpAny (model X.prog X.w) X.A (call (.ref f) []) (EP X pins σ Q) X.xe s := by
  obtain ⟨pm, ctv, c, h1, h2⟩ := hl
  have of1 : s.heap.get? f = some (lmObj X b pm ctv c) := (I.hok f _ h1).1
  obtain ⟨⟨oc, vs, t, hoc, hdc, hvc⟩, _, _⟩ := I.hok c _ h2
  have rc : codeAny (model X.prog X.w) X.A (.call (.ref f) ⟨[], []⟩) (CR (L2.CX X.prog X.w) X.stack X.prog X.w H s Q E) s := by
    refine PySem.W.kla_callFunE hr.depth of1 rfl B.own.co B.own.gen rfl ⟨c, oc, vs, t, rfl, hoc, hdc, hvc⟩ ?_
    rw [B.bind]
    refine wpAny_pure (wpAny_newFunctionEnv (fun y hy => (B.own.own y hy).2) (fun y hy => absurd hy (by simp)) (fun h₁ hns hsb => ⟨I.nolimit.fresh _ hsb, ?_⟩) B.own.kind)
    show codeAny _ _ (.expr b.bd (lamEnv X b.sc s.heap.objs.size f c)) _ _
    have kp : ∀ a o, s.heap.get? a = some o → h₁.get? a = some o := fun a o e => hsb.extBut a o (Nat.ne_of_lt (Heap.lt_size e)) (Heap.get?_push_of_some _ e)
    have J := lam_start2 (E := E) (f := f) (c' := c) (tk := s.toks + ([] : List (Str × Value)).length) I B.own I.env0 hr.hd Un.refl hns kp
    refine PySem.W.kla_codeExpr (wpAny_mono ((B.body _ _ s H f c (hr.deeper _)).run [] _ _ H Q J q) (fun v s' hq => ?_) fun e s' hq => hq)
    obtain ⟨w', H', J', rv, q⟩ := hq
    exact ⟨w', H', J'.os, J'.bare, J'.base, J'.hok, rv, q⟩
  have hx : Passes (L2.CX X.prog X.w) X E := passes_call tk hW
  refine wpAny_call (codeAny_mono rc fun r s' hq => ?_)
  cases r with
  | error e => exact hx pins σ H s e s' I hq
  | ok fl =>
    cases fl with
    | ret u => exact I.after hq
    | next => exact False.elim hq
    | brk => exact False.elim hq
    | cont => exact False.elim hq
theorem pe_callLam {k i : Nat} {a : Str} {W : WX} {E : XK} {b1 b2 : Lm} {t1 t2 : TE} {p1 p2 : Pos} (tk : Takes X W) (hW : ∀ cls d σ H, E cls d H → W cls d σ H) (hr : Room (k + 1) X.A) (B1 : LmOk X k E b1 t1) (B2 : LmOk X k E b2 t2)
    (hN : X.N[i]? = some a) (hv : Vis X.env.scope a) (hd : (a == ("__debug__" : Str)) = false := by decide) (hcd : (a == ("__classdict__" : Str)) = false := by decide) : PE X (.Call (.Name a p1) [] [] p2) (tCallLam X i b1 b2 t1 t2) := by
  refine ⟨fun pins s σ H Q I h => ?_⟩
  obtain ⟨f, hs, h⟩ := h
  refine wpAny_Call_Name_kw (thn ((pe_var (pos := p1) (i := i) hN hv hd hcd).run pins s σ H (fun v H1 => v = .ref f ∧ H1 = H) I ⟨.ref f, hs, rfl, rfl⟩) fun u s1 ⟨v, H1, I1, r1, q1⟩ => ?_)
  obtain ⟨ev, eH⟩ := q1
  subst ev
  rw [eH] at I1
  obtain rfl : u = Value.ref f := r1
  have of : ∀ {b : Lm}, IsLam X H f b → ∃ (oc : Value) (od : Option Addr) (fd : FuncData) (sl : Array (Option Value)), s1.heap.get? f = some ⟨oc, od, .func fd, sl⟩ := fun {b} hl => by
    obtain ⟨pm, ctv, c, h1, _⟩ := hl
    exact ⟨_, _, _, _, (I1.hok f _ h1).1⟩
  rcases h with ⟨hl, q⟩ | ⟨hl, q⟩
  · exact PySem.W.callWith_F0 (of hl) (lam_one tk hW hr B1 I1 hl q)
  · exact PySem.W.callWith_F0 (of hl) (lam_one tk hW hr B2 I1 hl q)
end
end Say

set_option Elab.async false
set_option linter.all false
set_option maxRecDepth 100000
set_option maxHeartbeats 0
namespace K07
open PySem PySem.Spec PyProof.Rows L2 Say
def top (i : Nat) : Stmt := PySem.Challenge.pw_saymakers_k07_whole_single_steps_or_a_ro.main.body.getD i (.Pass ⟨0, 0, 0, 0⟩)
abbrev R : PySem.W.OpenRow := PySem.W.OpenLaw.row PySem.Challenge.rw_saymakers_k07_whole_single_steps_or_a_ro
def loose0 : List Str := ["SayError", "InvalidPremises", "MOST_PLACES", "_EMPTY", "is_number", "is_number_below", "is_sequence", "lot_of", "formed_premise", "need_premises", "has_both", "is_within", "can_step", "stepped", "found_steps", "_steps_with", "_steps_of_use", "brought", "clash_steps", "steps_hold", "_is_clash", "_law_box", "_law_take", "_law_pick", "_law_rows", "_law_awake", "_law_is_place", "_law_walked", "_law_come", "_law_of_use"]
def loose1 : List Str := ["_law_refused", "_law_spoilt"]
def looseNames : List Str := loose0 ++ loose1
/-! the errors: their classes, and their own __init__ -/
def erSayError (K : PySem.W.Frag) : Bool := He.eqO (PySem.W.nsIn K mainGlobals "SayError") (some (some (.ref (He.ga K "SayError")))) && (ecB K (He.ga K "SayError") && ([] : List Str).all fun f => noB K (He.ga K "SayError") f)
def erInvalidPremises (K : PySem.W.Frag) : Bool := He.eqO (PySem.W.nsIn K mainGlobals "InvalidPremises") (some (some (.ref (He.ga K "InvalidPremises")))) && (ecB K (He.ga K "InvalidPremises") && (["at"] : List Str).all fun f => noB K (He.ga K "InvalidPremises") f)
def eiInvalidPremises (K : PySem.W.Frag) : Bool := He.eqO (PySem.W.findIn K (.ref (He.ga K "InvalidPremises")) "__init__") (some (some (.ref (He.ma K (He.ga K "InvalidPremises") "__init__")))) && decide (PySem.W.typeIn K (.ref (He.ma K (He.ga K "InvalidPremises") "__init__")) = some (.type "function"))
def exmB (K : PySem.W.Frag) : Bool := decide (PySem.W.exmOne K (.ref (He.ga K "SayError")) (.ref (He.ga K "SayError")) = some true) && decide (PySem.W.exmOne K (.ref (He.ga K "SayError")) (.ref (He.ga K "InvalidPremises")) = some false) && decide (PySem.W.exmOne K (.ref (He.ga K "InvalidPremises")) (.ref (He.ga K "SayError")) = some true) && decide (PySem.W.exmOne K (.ref (He.ga K "InvalidPremises")) (.ref (He.ga K "InvalidPremises")) = some true)
/-- the empty place sheet of the top -/
def tup0 (K : PySem.W.Frag) (a : Addr) : Bool := match K.lookup a with
  | some ⟨.type c, _, .seq its _, _⟩ => decide (c = "tuple") && its.isEmpty
  | _ => false
def emA (K : PySem.W.Frag) : Addr × Addr := match K.lookup (He.ga K "_EMPTY") with
  | some ⟨_, _, .seq its _, _⟩ => (match its.toList with
    | [.ref a, .ref b] => (a, b)
    | _ => (0, 0))
  | _ => (0, 0)
def moreB (K : PySem.W.Frag) : Bool := He.eqO (PySem.W.nsIn K mainGlobals "_EMPTY") (some (some (.ref (He.ga K "_EMPTY")))) && (He.tupB K "_EMPTY" [.adr fun K => (emA K).1, .adr fun K => (emA K).2] && (tup0 K (emA K).1 && tup0 K (emA K).2))
theorem tup0_ok {K : PySem.W.Frag} {a : Addr} (h : tup0 K a = true) (H : Hp) : SqT K H a [] := by
  unfold tup0 at h
  cases q : K.lookup a with
  | none =>
    rw [q] at h
    cases h
  | some o =>
    obtain ⟨oc, od, dt, osl⟩ := o
    rw [q] at h
    cases oc with
    | type c =>
      cases dt with
      | seq its n =>
        have h2 : (decide (c = "tuple") && its.isEmpty) = true := h
        obtain ⟨h3, h4⟩ := Bool.and_eq_true_iff.mp h2
        have e : its = #[] := Array.isEmpty_iff.mp h4
        subst e
        exact .inr ⟨_, #[], n, q, congrArg Value.type (of_decide_eq_true h3), rfl, Nat.zero_le _, .nil⟩
      | _ => cases h
    | _ => cases dt <;> cases h
def ex (K : PySem.W.Frag) : Bool := (erSayError K && (erInvalidPremises K && (eiInvalidPremises K && (exmB K && moreB K))))
def d_InvalidPremises___init__ : He.DefD := ⟨("InvalidPremises", some "__init__"), "__init__", "InvalidPremises.__init__", defArgs (inClass (top 2) 0), defBody (inClass (top 2) 0), defScope (inClass (top 2) 0), [], []⟩
def d_is_number : He.DefD := ⟨("is_number", none), "is_number", "is_number", defArgs (top 5), defBody (top 5), defScope (top 5), [], []⟩
def d_is_number_below : He.DefD := ⟨("is_number_below", none), "is_number_below", "is_number_below", defArgs (top 6), defBody (top 6), defScope (top 6), [], []⟩
def d_is_sequence : He.DefD := ⟨("is_sequence", none), "is_sequence", "is_sequence", defArgs (top 7), defBody (top 7), defScope (top 7), [.bl true], []⟩
def d_lot_of : He.DefD := ⟨("lot_of", none), "lot_of", "lot_of", defArgs (top 8), defBody (top 8), defScope (top 8), [], []⟩
def d_formed_premise : He.DefD := ⟨("formed_premise", none), "formed_premise", "formed_premise", defArgs (top 10), defBody (top 10), defScope (top 10), [], []⟩
def d_need_premises : He.DefD := ⟨("need_premises", none), "need_premises", "need_premises", defArgs (top 11), defBody (top 11), defScope (top 11), [], []⟩
def d_has_both : He.DefD := ⟨("has_both", none), "has_both", "has_both", defArgs (top 12), defBody (top 12), defScope (top 12), [], []⟩
def d_is_within : He.DefD := ⟨("is_within", none), "is_within", "is_within", defArgs (top 13), defBody (top 13), defScope (top 13), [], []⟩
def d_can_step : He.DefD := ⟨("can_step", none), "can_step", "can_step", defArgs (top 14), defBody (top 14), defScope (top 14), [], []⟩
def d_stepped : He.DefD := ⟨("stepped", none), "stepped", "stepped", defArgs (top 15), defBody (top 15), defScope (top 15), [], []⟩
def d_found_steps : He.DefD := ⟨("found_steps", none), "found_steps", "found_steps", defArgs (top 17), defBody (top 17), defScope (top 17), [], []⟩
def d__steps_with : He.DefD := ⟨("_steps_with", none), "_steps_with", "_steps_with", defArgs (top 18), defBody (top 18), defScope (top 18), [], []⟩
def d__steps_of_use : He.DefD := ⟨("_steps_of_use", none), "_steps_of_use", "_steps_of_use", defArgs (top 19), defBody (top 19), defScope (top 19), [], []⟩
def d_brought : He.DefD := ⟨("brought", none), "brought", "brought", defArgs (top 20), defBody (top 20), defScope (top 20), [], []⟩
def d_clash_steps : He.DefD := ⟨("clash_steps", none), "clash_steps", "clash_steps", defArgs (top 23), defBody (top 23), defScope (top 23), [], []⟩
def d_steps_hold : He.DefD := ⟨("steps_hold", none), "steps_hold", "steps_hold", defArgs (top 24), defBody (top 24), defScope (top 24), [], []⟩
def d__is_clash : He.DefD := ⟨("_is_clash", none), "_is_clash", "_is_clash", defArgs (top 25), defBody (top 25), defScope (top 25), [], []⟩
def d__law_box : He.DefD := ⟨("_law_box", none), "_law_box", "_law_box", defArgs (top 27), defBody (top 27), defScope (top 27), [], []⟩
def d__law_take : He.DefD := ⟨("_law_take", none), "_law_take", "_law_take", defArgs (top 28), defBody (top 28), defScope (top 28), [], []⟩
def d__law_pick : He.DefD := ⟨("_law_pick", none), "_law_pick", "_law_pick", defArgs (top 29), defBody (top 29), defScope (top 29), [], []⟩
def d__law_rows : He.DefD := ⟨("_law_rows", none), "_law_rows", "_law_rows", defArgs (top 30), defBody (top 30), defScope (top 30), [], []⟩
def d__law_awake : He.DefD := ⟨("_law_awake", none), "_law_awake", "_law_awake", defArgs (top 31), defBody (top 31), defScope (top 31), [], []⟩
def d__law_is_place : He.DefD := ⟨("_law_is_place", none), "_law_is_place", "_law_is_place", defArgs (top 32), defBody (top 32), defScope (top 32), [], []⟩
def d__law_walked : He.DefD := ⟨("_law_walked", none), "_law_walked", "_law_walked", defArgs (top 33), defBody (top 33), defScope (top 33), [], []⟩
def d__law_come : He.DefD := ⟨("_law_come", none), "_law_come", "_law_come", defArgs (top 34), defBody (top 34), defScope (top 34), [], []⟩
def d__law_of_use : He.DefD := ⟨("_law_of_use", none), "_law_of_use", "_law_of_use", defArgs (top 35), defBody (top 35), defScope (top 35), [], []⟩
def d__law_refused : He.DefD := ⟨("_law_refused", none), "_law_refused", "_law_refused", defArgs (top 36), defBody (top 36), defScope (top 36), [], []⟩
def d__law_spoilt : He.DefD := ⟨("_law_spoilt", none), "_law_spoilt", "_law_spoilt", defArgs (top 37), defBody (top 37), defScope (top 37), [], []⟩
def d_law : He.DefD := ⟨("law", none), "law", "law", defArgs (top 38), defBody (top 38), defScope (top 38), [], []⟩
def fn : List He.DefD := [d_InvalidPremises___init__, d_is_number, d_is_number_below, d_is_sequence, d_lot_of, d_formed_premise, d_need_premises, d_has_both, d_is_within, d_can_step, d_stepped, d_found_steps, d__steps_with, d__steps_of_use, d_brought, d_clash_steps, d_steps_hold, d__is_clash, d__law_box, d__law_take, d__law_pick, d__law_rows, d__law_awake, d__law_is_place, d__law_walked, d__law_come, d__law_of_use, d__law_refused, d__law_spoilt, d_law]
def fa : List He.Fa := [.glo "is_number", .glo "is_number_below", .glo "is_sequence", .glo "lot_of", .glo "formed_premise", .glo "need_premises", .glo "has_both", .glo "is_within", .glo "can_step", .glo "stepped", .glo "found_steps", .glo "_steps_with", .glo "_steps_of_use", .glo "brought", .glo "clash_steps", .glo "steps_hold", .glo "_is_clash", .glo "_law_box", .glo "_law_take", .glo "_law_pick", .glo "_law_rows", .glo "_law_awake", .glo "_law_is_place", .glo "_law_walked", .glo "_law_come", .glo "_law_of_use", .glo "_law_refused", .glo "_law_spoilt", .glo "law", .free "abs", .free "all", .free "any", .free "bool", .free "enumerate", .free "int", .free "isinstance", .free "len", .free "list", .free "max", .free "range", .free "repr", .free "reversed", .free "set", .free "sorted", .free "tuple", .int "MOST_PLACES" 3]
def tfs : List He.Defn := [("_law_refused", none)]
abbrev hk : PySem.W.Hook := He.hookX 4 fa fn [] tfs ex
def ob (s : PySem.W.SharedT) : He.AlX := He.obsX 4 fa fn [] tfs ex (HandSHeadRun.getT s)
theorem ob_eq (s : PySem.W.SharedT) : ob s = hk.obs s.abs := He.obsX_eq (HandSHeadRun.getT_eq s)
theorem run (w : World) : HandSHeadRun.RunEq R (PySem.W.view R.prog [38]) hk ob 8000 looseNames w := by
  intro os
  kernel_rfl
abbrev FnP (K : PySem.W.Frag) (x : Str) (i : Nat) (dvs : List V) (f : Addr) (fd : FuncData) : Prop := FunD K x x (defArgs (top i)) (defBody (top i)) (defScope (top i)) dvs [] f fd
structure Tx (K : PySem.W.Frag) (mg : Str → Option Value) : Prop where
  c_SayError : mg "SayError" = some (.ref (He.ga K "SayError"))
  E_SayError : EC K (He.ga K "SayError")
  c_InvalidPremises : mg "InvalidPremises" = some (.ref (He.ga K "InvalidPremises"))
  E_InvalidPremises : EC K (He.ga K "InvalidPremises")
  n_InvalidPremises_at : PySem.W.findIn K (.ref (He.ga K "InvalidPremises")) "at" = some none
  I_InvalidPremises : EI K (He.ga K "InvalidPremises") (He.ma K (He.ga K "InvalidPremises") "__init__")
  m_SayError_SayError : PySem.W.exmOne K (.ref (He.ga K "SayError")) (.ref (He.ga K "SayError")) = some true
  m_SayError_InvalidPremises : PySem.W.exmOne K (.ref (He.ga K "SayError")) (.ref (He.ga K "InvalidPremises")) = some false
  m_InvalidPremises_SayError : PySem.W.exmOne K (.ref (He.ga K "InvalidPremises")) (.ref (He.ga K "SayError")) = some true
  m_InvalidPremises_InvalidPremises : PySem.W.exmOne K (.ref (He.ga K "InvalidPremises")) (.ref (He.ga K "InvalidPremises")) = some true
  F_InvalidPremises___init__ : ∃ fd, FunD K "__init__" "InvalidPremises.__init__" (defArgs (inClass (top 2) 0)) (defBody (inClass (top 2) 0)) (defScope (inClass (top 2) 0)) [] [] (He.ma K (He.ga K "InvalidPremises") "__init__") fd
  F_is_number : ∃ fd, FnP K "is_number" 5 [] (He.ga K "is_number") fd
  F_is_number_below : ∃ fd, FnP K "is_number_below" 6 [] (He.ga K "is_number_below") fd
  F_is_sequence : ∃ fd, FnP K "is_sequence" 7 [.bl true] (He.ga K "is_sequence") fd
  F_lot_of : ∃ fd, FnP K "lot_of" 8 [] (He.ga K "lot_of") fd
  F_formed_premise : ∃ fd, FnP K "formed_premise" 10 [] (He.ga K "formed_premise") fd
  F_need_premises : ∃ fd, FnP K "need_premises" 11 [] (He.ga K "need_premises") fd
  F_has_both : ∃ fd, FnP K "has_both" 12 [] (He.ga K "has_both") fd
  F_is_within : ∃ fd, FnP K "is_within" 13 [] (He.ga K "is_within") fd
  F_can_step : ∃ fd, FnP K "can_step" 14 [] (He.ga K "can_step") fd
  F_stepped : ∃ fd, FnP K "stepped" 15 [] (He.ga K "stepped") fd
  F_found_steps : ∃ fd, FnP K "found_steps" 17 [] (He.ga K "found_steps") fd
  F__steps_with : ∃ fd, FnP K "_steps_with" 18 [] (He.ga K "_steps_with") fd
  F__steps_of_use : ∃ fd, FnP K "_steps_of_use" 19 [] (He.ga K "_steps_of_use") fd
  F_brought : ∃ fd, FnP K "brought" 20 [] (He.ga K "brought") fd
  F_clash_steps : ∃ fd, FnP K "clash_steps" 23 [] (He.ga K "clash_steps") fd
  F_steps_hold : ∃ fd, FnP K "steps_hold" 24 [] (He.ga K "steps_hold") fd
  F__is_clash : ∃ fd, FnP K "_is_clash" 25 [] (He.ga K "_is_clash") fd
  F__law_box : ∃ fd, FnP K "_law_box" 27 [] (He.ga K "_law_box") fd
  F__law_take : ∃ fd, FnP K "_law_take" 28 [] (He.ga K "_law_take") fd
  F__law_pick : ∃ fd, FnP K "_law_pick" 29 [] (He.ga K "_law_pick") fd
  F__law_rows : ∃ fd, FnP K "_law_rows" 30 [] (He.ga K "_law_rows") fd
  F__law_awake : ∃ fd, FnP K "_law_awake" 31 [] (He.ga K "_law_awake") fd
  F__law_is_place : ∃ fd, FnP K "_law_is_place" 32 [] (He.ga K "_law_is_place") fd
  F__law_walked : ∃ fd, FnP K "_law_walked" 33 [] (He.ga K "_law_walked") fd
  F__law_come : ∃ fd, FnP K "_law_come" 34 [] (He.ga K "_law_come") fd
  F__law_of_use : ∃ fd, FnP K "_law_of_use" 35 [] (He.ga K "_law_of_use") fd
  F__law_refused : ∃ fd, FnP K "_law_refused" 36 [] (He.ga K "_law_refused") fd
  F__law_spoilt : ∃ fd, FnP K "_law_spoilt" 37 [] (He.ga K "_law_spoilt") fd
  F_law : ∃ fd, FnP K "law" 38 [] (He.ga K "law") fd
  g_is_number : mg "is_number" = some (.ref (He.ga K "is_number"))
  g_is_number_below : mg "is_number_below" = some (.ref (He.ga K "is_number_below"))
  g_is_sequence : mg "is_sequence" = some (.ref (He.ga K "is_sequence"))
  g_lot_of : mg "lot_of" = some (.ref (He.ga K "lot_of"))
  g_formed_premise : mg "formed_premise" = some (.ref (He.ga K "formed_premise"))
  g_need_premises : mg "need_premises" = some (.ref (He.ga K "need_premises"))
  g_has_both : mg "has_both" = some (.ref (He.ga K "has_both"))
  g_is_within : mg "is_within" = some (.ref (He.ga K "is_within"))
  g_can_step : mg "can_step" = some (.ref (He.ga K "can_step"))
  g_stepped : mg "stepped" = some (.ref (He.ga K "stepped"))
  g_found_steps : mg "found_steps" = some (.ref (He.ga K "found_steps"))
  g__steps_with : mg "_steps_with" = some (.ref (He.ga K "_steps_with"))
  g__steps_of_use : mg "_steps_of_use" = some (.ref (He.ga K "_steps_of_use"))
  g_brought : mg "brought" = some (.ref (He.ga K "brought"))
  g_clash_steps : mg "clash_steps" = some (.ref (He.ga K "clash_steps"))
  g_steps_hold : mg "steps_hold" = some (.ref (He.ga K "steps_hold"))
  g__is_clash : mg "_is_clash" = some (.ref (He.ga K "_is_clash"))
  g__law_box : mg "_law_box" = some (.ref (He.ga K "_law_box"))
  g__law_take : mg "_law_take" = some (.ref (He.ga K "_law_take"))
  g__law_pick : mg "_law_pick" = some (.ref (He.ga K "_law_pick"))
  g__law_rows : mg "_law_rows" = some (.ref (He.ga K "_law_rows"))
  g__law_awake : mg "_law_awake" = some (.ref (He.ga K "_law_awake"))
  g__law_is_place : mg "_law_is_place" = some (.ref (He.ga K "_law_is_place"))
  g__law_walked : mg "_law_walked" = some (.ref (He.ga K "_law_walked"))
  g__law_come : mg "_law_come" = some (.ref (He.ga K "_law_come"))
  g__law_of_use : mg "_law_of_use" = some (.ref (He.ga K "_law_of_use"))
  g__law_refused : mg "_law_refused" = some (.ref (He.ga K "_law_refused"))
  g__law_spoilt : mg "_law_spoilt" = some (.ref (He.ga K "_law_spoilt"))
  g_law : mg "law" = some (.ref (He.ga K "law"))
  b_abs : mg "abs" = none
  b_all : mg "all" = none
  b_any : mg "any" = none
  b_bool : mg "bool" = none
  b_enumerate : mg "enumerate" = none
  b_int : mg "int" = none
  b_isinstance : mg "isinstance" = none
  b_len : mg "len" = none
  b_list : mg "list" = none
  b_max : mg "max" = none
  b_range : mg "range" = none
  b_repr : mg "repr" = none
  b_reversed : mg "reversed" = none
  b_set : mg "set" = none
  b_sorted : mg "sorted" = none
  b_tuple : mg "tuple" = none
  v_MOST_PLACES : ∃ t, mg "MOST_PLACES" = some (.int 3 t)
  g__EMPTY : mg "_EMPTY" = some (.ref (He.ga K "_EMPTY"))
  t__EMPTY : ∀ H, SqT K H (He.ga K "_EMPTY") [.ref (emA K).1, .ref (emA K).2]
  t__EMPTY1 : ∀ H, SqT K H (emA K).1 []
  t__EMPTY2 : ∀ H, SqT K H (emA K).2 []
theorem and2 {a b : Bool} (h : (a && b) = true) : a = true ∧ b = true := Bool.and_eq_true_iff.mp h
theorem tx_of {w : World} {K : PySem.W.Frag} {h : Heap} {mg : Str → Option Value} (X : K.In h) (G : h.Ns mainGlobals mg) (c : He.SaysX fa fn [] tfs ex w h K) : Tx K mg := by
  have d := c.t.d
  have r0 : ex K = true := c.more
  obtain ⟨e_SayError, r1⟩ := and2 r0
  obtain ⟨e_InvalidPremises, r2⟩ := and2 r1
  obtain ⟨i_InvalidPremises, r3⟩ := and2 r2
  obtain ⟨xm, r4⟩ := and2 r3
  have more := r4
  simp only [exmB, Bool.and_eq_true] at xm
  obtain ⟨⟨⟨m_SayError_SayError, m_SayError_InvalidPremises⟩, m_InvalidPremises_SayError⟩, m_InvalidPremises_InvalidPremises⟩ := xm
  exact ⟨PySem.W.mg_of X G (He.eqO_ok (and2 e_SayError).1), ecB_ok (and2 (and2 e_SayError).2).1, PySem.W.mg_of X G (He.eqO_ok (and2 e_InvalidPremises).1), ecB_ok (and2 (and2 e_InvalidPremises).2).1, noB_ok (List.all_eq_true.mp (and2 (and2 e_InvalidPremises).2).2 "at" (by decide)), ⟨He.eqO_ok (and2 i_InvalidPremises).1, of_decide_eq_true (and2 i_InvalidPremises).2⟩, of_decide_eq_true m_SayError_SayError, of_decide_eq_true m_SayError_InvalidPremises, of_decide_eq_true m_InvalidPremises_SayError, of_decide_eq_true m_InvalidPremises_InvalidPremises, d.def_ 0 (d := d_InvalidPremises___init__) rfl, d.def_ 1 (d := d_is_number) rfl, d.def_ 2 (d := d_is_number_below) rfl, d.def_ 3 (d := d_is_sequence) rfl, d.def_ 4 (d := d_lot_of) rfl, d.def_ 5 (d := d_formed_premise) rfl, d.def_ 6 (d := d_need_premises) rfl, d.def_ 7 (d := d_has_both) rfl, d.def_ 8 (d := d_is_within) rfl, d.def_ 9 (d := d_can_step) rfl, d.def_ 10 (d := d_stepped) rfl, d.def_ 11 (d := d_found_steps) rfl, d.def_ 12 (d := d__steps_with) rfl, d.def_ 13 (d := d__steps_of_use) rfl, d.def_ 14 (d := d_brought) rfl, d.def_ 15 (d := d_clash_steps) rfl, d.def_ 16 (d := d_steps_hold) rfl, d.def_ 17 (d := d__is_clash) rfl, d.def_ 18 (d := d__law_box) rfl, d.def_ 19 (d := d__law_take) rfl, d.def_ 20 (d := d__law_pick) rfl, d.def_ 21 (d := d__law_rows) rfl, d.def_ 22 (d := d__law_awake) rfl, d.def_ 23 (d := d__law_is_place) rfl, d.def_ 24 (d := d__law_walked) rfl, d.def_ 25 (d := d__law_come) rfl, d.def_ 26 (d := d__law_of_use) rfl, d.def_ 27 (d := d__law_refused) rfl, d.def_ 28 (d := d__law_spoilt) rfl, d.def_ 29 (d := d_law) rfl, He.glo_ok X G (d.fact 0 (f := .glo "is_number") rfl), He.glo_ok X G (d.fact 1 (f := .glo "is_number_below") rfl), He.glo_ok X G (d.fact 2 (f := .glo "is_sequence") rfl), He.glo_ok X G (d.fact 3 (f := .glo "lot_of") rfl), He.glo_ok X G (d.fact 4 (f := .glo "formed_premise") rfl), He.glo_ok X G (d.fact 5 (f := .glo "need_premises") rfl), He.glo_ok X G (d.fact 6 (f := .glo "has_both") rfl), He.glo_ok X G (d.fact 7 (f := .glo "is_within") rfl), He.glo_ok X G (d.fact 8 (f := .glo "can_step") rfl), He.glo_ok X G (d.fact 9 (f := .glo "stepped") rfl), He.glo_ok X G (d.fact 10 (f := .glo "found_steps") rfl), He.glo_ok X G (d.fact 11 (f := .glo "_steps_with") rfl), He.glo_ok X G (d.fact 12 (f := .glo "_steps_of_use") rfl), He.glo_ok X G (d.fact 13 (f := .glo "brought") rfl), He.glo_ok X G (d.fact 14 (f := .glo "clash_steps") rfl), He.glo_ok X G (d.fact 15 (f := .glo "steps_hold") rfl), He.glo_ok X G (d.fact 16 (f := .glo "_is_clash") rfl), He.glo_ok X G (d.fact 17 (f := .glo "_law_box") rfl), He.glo_ok X G (d.fact 18 (f := .glo "_law_take") rfl), He.glo_ok X G (d.fact 19 (f := .glo "_law_pick") rfl), He.glo_ok X G (d.fact 20 (f := .glo "_law_rows") rfl), He.glo_ok X G (d.fact 21 (f := .glo "_law_awake") rfl), He.glo_ok X G (d.fact 22 (f := .glo "_law_is_place") rfl), He.glo_ok X G (d.fact 23 (f := .glo "_law_walked") rfl), He.glo_ok X G (d.fact 24 (f := .glo "_law_come") rfl), He.glo_ok X G (d.fact 25 (f := .glo "_law_of_use") rfl), He.glo_ok X G (d.fact 26 (f := .glo "_law_refused") rfl), He.glo_ok X G (d.fact 27 (f := .glo "_law_spoilt") rfl), He.glo_ok X G (d.fact 28 (f := .glo "law") rfl), He.free_ok X G (d.fact 29 (f := .free "abs") rfl), He.free_ok X G (d.fact 30 (f := .free "all") rfl), He.free_ok X G (d.fact 31 (f := .free "any") rfl), He.free_ok X G (d.fact 32 (f := .free "bool") rfl), He.free_ok X G (d.fact 33 (f := .free "enumerate") rfl), He.free_ok X G (d.fact 34 (f := .free "int") rfl), He.free_ok X G (d.fact 35 (f := .free "isinstance") rfl), He.free_ok X G (d.fact 36 (f := .free "len") rfl), He.free_ok X G (d.fact 37 (f := .free "list") rfl), He.free_ok X G (d.fact 38 (f := .free "max") rfl), He.free_ok X G (d.fact 39 (f := .free "range") rfl), He.free_ok X G (d.fact 40 (f := .free "repr") rfl), He.free_ok X G (d.fact 41 (f := .free "reversed") rfl), He.free_ok X G (d.fact 42 (f := .free "set") rfl), He.free_ok X G (d.fact 43 (f := .free "sorted") rfl), He.free_ok X G (d.fact 44 (f := .free "tuple") rfl), He.int_ok X G (d.fact 45 (f := .int "MOST_PLACES" 3) rfl), PySem.W.mg_of X G (He.eqO_ok (and2 more).1), fun H => He.tupB_ok (and2 (and2 more).2).1 H, fun H => tup0_ok (and2 (and2 (and2 more).2).2).1 H, fun H => tup0_ok (and2 (and2 (and2 more).2).2).2 H⟩
/-- a def that keeps its promise, and where it stands -/
def Fd (P : Program) (w : World) (K : PySem.W.Frag) (mg : Str → Option Value) (base : Heap) (CX : CXT) (k : Nat) (x : Str) (ps : List Str) (sp : Sp) : Prop :=
  ∃ fd, FnOk P w K mg base CX k (He.ga K x) fd ps sp ∧ Binds K fd ps [] ∧ PySem.W.keepIn K (.ref (He.ga K x)) = true
end K07

set_option Elab.async false
set_option linter.all false
set_option maxRecDepth 100000
set_option maxHeartbeats 4000000
namespace K07
open PySem PySem.Spec PyProof.Rows L2 Say
theorem pe_fd {X : Cx} {CX : CXT} {k : Nat} {x : Str} {ps : List Str} {sp : Sp} {E : XK} {e : Expr} {es : List Expr} {t : TA} {p pos : Pos} (h : Fd X.prog X.w X.K X.mg X.base CX k x ps sp) (hr : Room k X.A) (hg : Gl X x) (hm : X.mg x = some (.ref (He.ga X.K x))) (hx : Passes CX X E)
    (ha : PA X (e :: es) t) (hdb : (x == ("__debug__" : Str)) = false := by decide) (he : starEach (e :: es) X.env = (false, eval e X.env) :: starEach es X.env := by rfl) (hpl : (backTo pos (starEach es X.env)).any (·.1) = false := by rfl) :
    PE X (.Call (.Name x p) (e :: es) [] pos) (tCall sp [] E t) := by
  obtain ⟨fd, F, b, kp⟩ := h
  exact pe_call F hr hg hm kp b .nil hx ha hdb he hpl
theorem isD_if {T : String} {d : PyData} {b : Bool} (h : isD T d = b) : V.bl (isD T d) = .bl b := by rw [h]
def numB : PyData → Bool
  | .int i => decide (0 ≤ i)
  | _ => false
def spNum (K : PySem.W.Frag) : Sp := fun vs H Q _ => ∃ v d, vs = [v] ∧ Dp K H v d ∧ Q (.bl (numB d)) H
section
variable {P : Program} {w : World} {K : PySem.W.Frag} {mg : Str → Option Value} {base : Heap}
theorem scNum : FnScope ["value"] ["value"] (defScope (top 5)) := ⟨rfl, rfl, rfl, by decide +kernel, rfl, by decide +kernel, by decide +kernel⟩
theorem ok_num (T : Tx K mg) : Fd P w K mg base CX0 1 "is_number" ["value"] (spNum K) := by
  obtain ⟨fd, F⟩ := T.F_is_number
  refine ⟨fd, ?_, F.bindsN fun _ _ _ _ _ _ us hl => match us, hl with | [_], _ => rfl, F.kp⟩
  refine F.ok scNum (fun vs H Q E h => ?_) (fun cdv A outer s H vs Q E hr h => ?_)
  · obtain ⟨v, d, rfl, _⟩ := h
    rfl
  · obtain ⟨v, d, rfl, hd, q⟩ := h
    refine ⟨_, PSs.nox (pss_one (ps_ret (pe_and (pe_isi (T := "int") (pv 0) T.b_isinstance T.b_int (by decide +kernel)) (pe_and (pe_not (pe_isi (T := "bool") (pv 0) T.b_isinstance T.b_bool (by decide +kernel))) (pe_one (pe_cmpR op_ge (pv 0) pe_int (nomark _))))))), ?_⟩
    cases hd with
    | non => exact isi_var rfl .non (by decide) (isD_int _) ⟨_, rfl, q⟩
    | str x => exact isi_var rfl (.str x) (by decide) (isD_int _) ⟨_, rfl, q⟩
    | lst a b => exact isi_var rfl (.lst a b) (by decide) (isD_int _) ⟨_, rfl, q⟩
    | tup a b => exact isi_var rfl (.tup a b) (by decide) (isD_int _) ⟨_, rfl, q⟩
    | bl b => exact isi_var rfl (.bl b) (by decide) (isD_int _) ⟨_, rfl, isi_var rfl (.bl b) (by decide) (isD_bool _) ⟨_, rfl, _, rfl, q⟩⟩
    | int i => exact isi_var rfl (.int i) (by decide) (isD_int _) ⟨_, rfl, isi_var rfl (.int i) (by decide) (isD_bool _) ⟨_, rfl, _, rfl, _, rfl, _, _, rfl, rfl, q⟩⟩
end
end K07

set_option Elab.async false
set_option linter.all false
set_option maxRecDepth 100000
set_option maxHeartbeats 4000000
namespace K07
open PySem PySem.Spec PyProof.Rows L2 Say
/-! numbers ascending, each once -/
def insI (x : Int) : List Int → List Int
  | [] => [x]
  | y :: ys => if x < y then x :: y :: ys else if x = y then y :: ys else y :: insI x ys
def ordI : List Int → List Int
  | [] => []
  | x :: xs => insI x (ordI xs)
theorem mem_insI {x k : Int} : ∀ {ys : List Int}, k ∈ insI x ys ↔ k = x ∨ k ∈ ys
  | [] => by simp [insI]
  | y :: ys => by
    unfold insI
    split
    · simp
    · split
      · rename_i h
        subst h
        simp
      · simp only [List.mem_cons, mem_insI (ys := ys)]
        constructor
        · rintro (h | h | h) <;> simp [h]
        · rintro (h | h | h) <;> simp [h]
theorem mem_ordI {k : Int} : ∀ {xs : List Int}, k ∈ ordI xs ↔ k ∈ xs
  | [] => by simp [ordI]
  | x :: xs => by simp only [ordI, mem_insI, mem_ordI (xs := xs), List.mem_cons]
theorem srt_insI {x : Int} : ∀ {ys : List Int}, ys.Pairwise (· < ·) → (insI x ys).Pairwise (· < ·)
  | [], _ => by simp [insI]
  | y :: ys, h => by
    obtain ⟨h1, h2⟩ := List.pairwise_cons.mp h
    unfold insI
    split
    · rename_i g
      exact List.pairwise_cons.mpr ⟨fun z hz => by
        rcases List.mem_cons.mp hz with rfl | hz
        · exact g
        · have := h1 z hz
          omega, h⟩
    · split
      · exact h
      · refine List.pairwise_cons.mpr ⟨fun z hz => ?_, srt_insI h2⟩
        rcases mem_insI.mp hz with rfl | hz
        · omega
        · exact h1 z hz
theorem srt_ordI : ∀ {xs : List Int}, (ordI xs).Pairwise (· < ·)
  | [] => .nil
  | x :: xs => srt_insI srt_ordI
/-- strictly ascending with the same members: the same -/
theorem srt_eq : ∀ {xs ys : List Int}, xs.Pairwise (· < ·) → ys.Pairwise (· < ·) → (∀ k, k ∈ xs ↔ k ∈ ys) → xs = ys
  | [], [], _, _, _ => rfl
  | [], y :: ys, _, _, h => by
    have := (h y).mpr (by simp)
    simp at this
  | x :: xs, [], _, _, h => by
    have := (h x).mp (by simp)
    simp at this
  | x :: xs, y :: ys, h1, h2, h => by
    obtain ⟨a1, a2⟩ := List.pairwise_cons.mp h1
    obtain ⟨b1, b2⟩ := List.pairwise_cons.mp h2
    have e : x = y := by
      have p := (h x).mp (by simp)
      have q := (h y).mpr (by simp)
      rcases List.mem_cons.mp p with p | p
      · exact p
      · rcases List.mem_cons.mp q with q | q
        · exact q.symm
        · have := a1 y q
          have := b1 x p
          omega
    subst e
    congr 1
    refine srt_eq a2 b2 fun k => ⟨fun m => ?_, fun m => ?_⟩
    · rcases List.mem_cons.mp ((h k).mp (List.mem_cons_of_mem _ m)) with z | z
      · have := a1 k m
        omega
      · exact z
    · rcases List.mem_cons.mp ((h k).mpr (List.mem_cons_of_mem _ m)) with z | z
      · have := b1 k m
        omega
      · exact z
theorem ordI_of {xs ms : List Int} (h : ms.Pairwise (· < ·)) (m : ∀ k, k ∈ ms ↔ k ∈ xs) : ms = ordI xs := srt_eq h srt_ordI fun k => (m k).trans mem_ordI.symm
theorem ordI_srt {ms : List Int} (h : ms.Pairwise (· < ·)) : ordI ms = ms := (ordI_of h fun _ => Iff.rfl).symm
theorem len_insI {x : Int} : ∀ {ys : List Int}, (insI x ys).length ≤ ys.length + 1
  | [] => by simp [insI]
  | y :: ys => by
    unfold insI
    split
    · simp
    · split
      · simp
      · have := len_insI (x := x) (ys := ys)
        simp only [List.length_cons]
        omega
theorem len_ordI : ∀ {xs : List Int}, (ordI xs).length ≤ xs.length
  | [] => by simp [ordI]
  | x :: xs => by
    have := len_ordI (xs := xs)
    have := len_insI (x := x) (ys := ordI xs)
    simp only [ordI, List.length_cons]
    omega
/-! the small defs -/
def belowB (d : PyData) (n : Int) : Bool := match d with
  | .int i => decide (0 ≤ i) && decide (i < n)
  | _ => false
def seqB : PyData → Bool
  | .list _ => true
  | .tuple _ => true
  | _ => false
def spBelow (K : PySem.W.Frag) : Sp := fun vs H Q _ => ∃ v d n, vs = [v, .int n] ∧ Dp K H v d ∧ Q (.bl (belowB d n)) H
def spSeq (K : PySem.W.Frag) : Sp := fun vs H Q _ => ∃ v d, vs = [v, .bl true] ∧ Dp K H v d ∧ Q (.bl (seqB d)) H
def spLot (K : PySem.W.Frag) : Sp := fun vs H Q _ => ∃ (a : Addr) (ns : List Int), vs = [.ref a] ∧ Sq K H a (ns.map V.int) ∧ ns.length < 64 ∧
  ∀ H' t, Same H H' → H t = none → H' t = some (.tup ((ordI ns).map V.int)) → Q (.ref t) H'
def FdD (P : Program) (w : World) (K : PySem.W.Frag) (mg : Str → Option Value) (base : Heap) (CX : CXT) (k : Nat) (x : Str) (ps : List Str) (dvs : List V) (sp : Sp) : Prop :=
  ∃ fd ds, FnOk P w K mg base CX k (He.ga K x) fd ps sp ∧ (Vals dvs ds ∧ Binds K fd ps ds) ∧ PySem.W.keepIn K (.ref (He.ga K x)) = true
theorem pe_fdD {X : Cx} {CX : CXT} {k : Nat} {x : Str} {ps : List Str} {sp : Sp} {E : XK} {e : Expr} {es : List Expr} {t : TA} {p pos : Pos} {dvs : List V} (h : FdD X.prog X.w X.K X.mg X.base CX k x ps dvs sp) (hr : Room k X.A) (hg : Gl X x) (hm : X.mg x = some (.ref (He.ga X.K x))) (hx : Passes CX X E)
    (ha : PA X (e :: es) t) (hdb : (x == ("__debug__" : Str)) = false := by decide) (he : starEach (e :: es) X.env = (false, eval e X.env) :: starEach es X.env := by rfl) (hpl : (backTo pos (starEach es X.env)).any (·.1) = false := by rfl) :
    PE X (.Call (.Name x p) (e :: es) [] pos) (tCall sp dvs E t) := by
  obtain ⟨fd, ds, F, ⟨hd, b⟩, kp⟩ := h
  exact pe_call F hr hg hm kp b hd hx ha hdb he hpl
section
variable {P : Program} {w : World} {K : PySem.W.Frag} {mg : Str → Option Value} {base : Heap}
theorem scBelow : FnScope ["value", "end"] ["value", "end"] (defScope (top 6)) := ⟨rfl, rfl, rfl, by decide +kernel, rfl, by decide +kernel, by decide +kernel⟩
theorem ok_below (T : Tx K mg) : Fd P w K mg base CX0 2 "is_number_below" ["value", "end"] (spBelow K) := by
  obtain ⟨fd, F⟩ := T.F_is_number_below
  refine ⟨fd, ?_, F.bindsN fun _ _ _ _ _ _ us hl => match us, hl with | [_, _], _ => rfl, F.kp⟩
  refine F.ok scBelow (fun vs H Q E h => ?_) (fun cdv A outer s H vs Q E hr h => ?_)
  · obtain ⟨v, d, n, rfl, _⟩ := h
    rfl
  · obtain ⟨v, d, n, rfl, hd, q⟩ := h
    refine ⟨_, PSs.nox (pss_one (ps_ret (pe_and (pe_fd (ok_num T) hr rfl T.g_is_number pass0 (pa_cons (pv 0) pa_nil)) (pe_one (pe_cmpR op_lt (pv 0) (pv 1) (nomark _)))))), ?_⟩
    refine ⟨_, rfl, v, d, rfl, hd, _, rfl, ?_⟩
    cases hd with
    | int i =>
      refine ite2 (fun c => ?_) (fun c => ?_)
      · refine ⟨_, rfl, _, rfl, _, _, rfl, rfl, ?_⟩
        have e : belowB (.int i) n = decide (i < n) := by
          show (numB (.int i) && _) = _
          rw [c]
          rfl
        rw [e] at q
        exact q
      · have e : belowB (.int i) n = false := by
          show (numB (.int i) && _) = _
          rw [Bool.eq_false_iff.mpr c]
          rfl
        rw [e] at q
        exact q
    | _ => exact q
theorem scSeq : FnScope ["value", "lists"] ["value", "lists"] (defScope (top 7)) := ⟨rfl, rfl, rfl, by decide +kernel, rfl, by decide +kernel, by decide +kernel⟩
theorem ok_seq (T : Tx K mg) : FdD P w K mg base CX0 1 "is_sequence" ["value", "lists"] [.bl true] (spSeq K) := by
  obtain ⟨fd, F⟩ := T.F_is_sequence
  obtain ⟨ds, v1, b1⟩ := F.binds1 (ps := ["value", "lists"]) 1 0 (by decide) rfl fun T kV doc pm an cdv ct us its h1 h2 => match us, its, h1, h2 with | [_], [_], _, _ => ⟨_, rfl, rfl⟩
  refine ⟨fd, ds, ?_, ⟨v1, b1⟩, F.kp⟩
  refine F.ok scSeq (fun vs H Q E h => ?_) (fun cdv A outer s H vs Q E hr h => ?_)
  · obtain ⟨v, d, rfl, _⟩ := h
    rfl
  · obtain ⟨v, d, rfl, hd, q⟩ := h
    refine ⟨_, PSs.nox (pss_one (ps_ret (pe_or (pe_isi (T := "tuple") (pv 0) T.b_isinstance T.b_tuple (by decide +kernel)) (pe_one (pe_and (pv 1) (pe_one (pe_isi (T := "list") (pv 0) T.b_isinstance T.b_list (by decide +kernel)))))))), ?_⟩
    cases hd with
    | tup a b => exact isi_var rfl (.tup a b) (by decide) (isD_tuple _) ⟨_, rfl, q⟩
    | lst a b => exact isi_var rfl (.lst a b) (by decide) (isD_tuple _) ⟨_, rfl, _, rfl, _, rfl, isi_var rfl (.lst a b) (by decide) (isD_list _) q⟩
    | non => exact isi_var rfl .non (by decide) (isD_tuple _) ⟨_, rfl, _, rfl, _, rfl, isi_var rfl .non (by decide) (isD_list _) q⟩
    | str x => exact isi_var rfl (.str x) (by decide) (isD_tuple _) ⟨_, rfl, _, rfl, _, rfl, isi_var rfl (.str x) (by decide) (isD_list _) q⟩
    | bl x => exact isi_var rfl (.bl x) (by decide) (isD_tuple _) ⟨_, rfl, _, rfl, _, rfl, isi_var rfl (.bl x) (by decide) (isD_list _) q⟩
    | int x => exact isi_var rfl (.int x) (by decide) (isD_tuple _) ⟨_, rfl, _, rfl, _, rfl, isi_var rfl (.int x) (by decide) (isD_list _) q⟩
theorem scLot : FnScope ["values"] ["values"] (defScope (top 8)) := ⟨rfl, rfl, rfl, by decide +kernel, rfl, by decide +kernel, by decide +kernel⟩
theorem ok_lot (T : Tx K mg) : Fd P w K mg base CX0 1 "lot_of" ["values"] (spLot K) := by
  obtain ⟨fd, F⟩ := T.F_lot_of
  refine ⟨fd, ?_, F.bindsN fun _ _ _ _ _ _ us hl => match us, hl with | [_], _ => rfl, F.kp⟩
  refine F.ok scLot (fun vs H Q E h => ?_) (fun cdv A outer s H vs Q E hr h => ?_)
  · obtain ⟨a, ns, rfl, _⟩ := h
    rfl
  · obtain ⟨a, ns, rfl, hS, hn, q⟩ := h
    refine ⟨_, PSs.nox (pss_one (ps_ret (pe_callTy call_tuple_of (by rfl) T.b_tuple (by decide +kernel) (pa_cons (pe_callB (cr_sortedSet (by rfl)) (by rfl) T.b_sorted (by decide +kernel) (pa_cons (pe_callTy (cr_setI (by rfl)) (by rfl) T.b_set (by decide +kernel) (pa_cons (pv 0) pa_nil)) pa_nil)) pa_nil)))), ?_⟩
    refine ⟨_, rfl, a, ns, rfl, hS, by omega, fun p c hp hc => ⟨p, _, c, rfl, upd_same, by omega, fun ms l h1 h2 h3 hl => ⟨l, _, rfl, .inl ⟨SqL.of upd_same, fun t ht => ?_⟩⟩⟩⟩
    have hlH : H l = none := by
      by_cases e : l = p
      · rw [e]
        exact hp
      · rw [upd_ne e] at hl
        exact hl
    have htH : H t = none := by
      by_cases e : t = l
      · rw [e]
        exact hlH
      · rw [upd_ne e] at ht
        by_cases e2 : t = p
        · rw [e2]
          exact hp
        · rw [upd_ne e2] at ht
          exact ht
    refine q _ t ?_ htH (by rw [← ordI_of h1 (fun k => (h2 k).trans (by simp))]; exact upd_same)
    exact same_upd (same_upd (same_upd (fun _ _ z => z) hp) hlH) htH
end
end K07

set_option Elab.async false
set_option linter.all false
set_option maxRecDepth 100000
set_option maxHeartbeats 8000000
namespace K07
open PySem PySem.Spec PyProof.Rows L2 Say
/-! premises of places -/
abbrev Pm := List Int × List Int
def pmD (p : Pm) : PyData := .tuple [.tuple (p.1.map PyData.int), .tuple (p.2.map PyData.int)]
def okP (n : Int) : PyData → Bool
  | .int i => decide (0 ≤ i) && (decide (1 ≤ i) && decide (i ≤ n))
  | _ => false
def itemsD : PyData → Option (List PyData)
  | .list ds => some ds
  | .tuple ds => some ds
  | _ => none
def intD : PyData → Option Int
  | .int i => some i
  | _ => none
def sideD (n : Int) (d : PyData) : Option (List Int) := match itemsD d with
  | some ds => if ds.all (okP n) = true then some (ds.filterMap intD) else none
  | none => none
def premD (n : Int) (d : PyData) : Option Pm := match itemsD d with
  | some [a, b] => (match sideD n a, sideD n b with
    | some l, some r => some (ordI l, ordI r)
    | _, _ => none)
  | _ => none
def fewD (d : PyData) : Prop := ∀ ds, itemsD d = some ds → ∀ s ∈ ds, ∀ es, itemsD s = some es → es.length < 64
theorem dp_items {K : PySem.W.Frag} {H : Hp} {v : V} {d : PyData} {ds : List PyData} (h : Dp K H v d) (e : itemsD d = some ds) : ∃ a vs, v = .ref a ∧ Sq K H a vs ∧ DpAll K H vs ds := by
  cases h with
  | lst hs ha =>
    cases e
    exact ⟨_, _, rfl, .inl hs, ha⟩
  | tup hs ha =>
    cases e
    exact ⟨_, _, rfl, .inr hs, ha⟩
  | _ => cases e
theorem seqB_items {d : PyData} : seqB d = (itemsD d).isSome := by cases d <;> rfl
theorem ok_ints {n : Int} : ∀ {ds : List PyData}, ds.all (okP n) = true → ds = (ds.filterMap intD).map PyData.int
  | [], _ => rfl
  | d :: ds, h => by
    rw [List.all_cons, Bool.and_eq_true] at h
    cases d with
    | int i =>
      show _ = PyData.int i :: _
      rw [← ok_ints h.2]
    | _ => cases h.1
theorem dpAll_vints {K : PySem.W.Frag} {H : Hp} {vs : List V} {ds : List PyData} {n : Int} (h : DpAll K H vs ds) (e : ds.all (okP n) = true) : vs = (ds.filterMap intD).map V.int := by
  rw [ok_ints e] at h
  exact dp_ints h
theorem same_trans {H H1 H2 : Hp} (a : Same H H1) (b : Same H1 H2) : Same H H2 := fun x o h => b x o (a x o h)
theorem same_refl (H : Hp) : Same H H := fun _ _ h => h
/-- a premise that stands -/
theorem pm_make {K : PySem.W.Frag} {H : Hp} {t a b : Addr} {p : Pm} (ht : H t = some (.tup [.ref a, .ref b])) (ha : H a = some (.tup (p.1.map V.int))) (hb : H b = some (.tup (p.2.map V.int))) : Dp K H (.ref t) (pmD p) :=
  .tup (SqT.of ht) (.cons (.tup (SqT.of ha) (ints_dp _)) (.cons (.tup (SqT.of hb) (ints_dp _)) .nil))
theorem pm_open {K : PySem.W.Frag} {H : Hp} {v : V} {p : Pm} (h : Dp K H v (pmD p)) : ∃ t a b, v = .ref t ∧ SqT K H t [.ref a, .ref b] ∧ SqT K H a (p.1.map V.int) ∧ SqT K H b (p.2.map V.int) := by
  cases h with
  | tup hs ha =>
    cases ha with
    | cons h1 h2 =>
      cases h2 with
      | cons h2 h3 =>
        cases h3
        cases h1 with
        | tup s1 a1 =>
          cases h2 with
          | tup s2 a2 =>
            rw [dp_ints a1] at s1
            rw [dp_ints a2] at s2
            exact ⟨_, _, _, rfl, hs, s1, s2⟩
def spFormed (K : PySem.W.Frag) : Sp := fun vs H Q _ => ∃ v d n, vs = [v, .int n] ∧ Dp K H v d ∧ fewD d ∧ (premD n d = none → ∀ H', Same H H' → Q .non H') ∧
  ∀ p, premD n d = some p → ∀ H' u, Same H H' → Dp K H' u (pmD p) → Q u H'
theorem prem_items {n : Int} {d : PyData} {ds : List PyData} {p : Pm} (e : itemsD d = some ds) (h : premD n d = some p) : ∃ a b l r, ds = [a, b] ∧ sideD n a = some l ∧ sideD n b = some r ∧ p = (ordI l, ordI r) := by
  unfold premD at h
  rw [e] at h
  split at h
  · rename_i a b z
    cases z
    cases ha : sideD n a with
    | none =>
      rw [ha] at h
      cases h
    | some l =>
      cases hb : sideD n b with
      | none =>
        rw [ha, hb] at h
        cases h
      | some r =>
        rw [ha, hb] at h
        cases h
        exact ⟨a, b, l, r, rfl, ha, hb, rfl⟩
  · cases h
theorem prem_none {n : Int} {d : PyData} {ds : List PyData} (e : itemsD d = some ds) (h : ds.length ≠ 2) : premD n d = none := by
  cases q : premD n d with
  | none => rfl
  | some p =>
    obtain ⟨a, b, l, r, rfl, _⟩ := prem_items e q
    exact absurd rfl h
theorem prem_bad {n : Int} {d x : PyData} {ds : List PyData} (e : itemsD d = some ds) (hx : x ∈ ds) (h : sideD n x = none) : premD n d = none := by
  cases q : premD n d with
  | none => rfl
  | some p =>
    obtain ⟨a, b, l, r, rfl, h1, h2, _⟩ := prem_items e q
    simp only [List.mem_cons, List.not_mem_nil, or_false] at hx
    rcases hx with rfl | rfl
    · rw [h1] at h
      cases h
    · rw [h2] at h
      cases h
theorem prem_some {n : Int} {d a b : PyData} {l r : List Int} (e : itemsD d = some [a, b]) (h1 : sideD n a = some l) (h2 : sideD n b = some r) : premD n d = some (ordI l, ordI r) := by
  unfold premD
  rw [e]
  show (match sideD n a, sideD n b with | some l, some r => some (ordI l, ordI r) | _, _ => none) = _
  rw [h1, h2]
theorem side_sq {K : PySem.W.Frag} {H : Hp} {v : V} {d : PyData} {n : Int} {l : List Int} (h : Dp K H v d) (e : sideD n d = some l) : ∃ a es, v = .ref a ∧ Sq K H a (l.map V.int) ∧ itemsD d = some es ∧ l.length = es.length := by
  unfold sideD at e
  cases q : itemsD d with
  | none =>
    rw [q] at e
    cases e
  | some es =>
    rw [q] at e
    replace e : (if es.all (okP n) = true then some (es.filterMap intD) else none) = some l := e
    obtain ⟨a, vs, rfl, hq, ha⟩ := dp_items h q
    split at e
    · rename_i z
      cases e
      have y := dpAll_vints ha z
      subst y
      have len := dpAll_len ha
      rw [List.length_map] at len
      exact ⟨a, es, rfl, hq, rfl, len⟩
    · cases e
theorem dp_two {K : PySem.W.Frag} {H : Hp} : ∀ {vs : List V} {ds : List PyData}, DpAll K H vs ds → vs.length = 2 → ∃ x y u v, ds = [x, y] ∧ vs = [u, v] ∧ Dp K H u x ∧ Dp K H v y
  | _, _, .nil, e => by cases e
  | _, _, .cons h .nil, e => by cases e
  | _, _, .cons h (.cons k .nil), _ => ⟨_, _, _, _, rfl, rfl, h, k⟩
  | _, _, .cons _ (.cons _ (.cons _ _)), e => by simp at e
theorem out_step {α β : Type} {es : List α} {i : Nat} {d : α} {f : α → β} (h : es[i]? = some d) : (es.take (i + 1)).map f = (es.take i).map f ++ [f d] := by
  rw [List.take_succ, h, List.map_append]
  rfl
theorem take_few {α β : Type} {es : List α} {i n : Nat} {f : α → β} (h : es.length < 64) : ((es.take i).map f).length < sizeLine := by
  rw [List.length_map]
  have h1 : (es.take i).length ≤ es.length := by
    rw [List.length_take]
    omega
  have h2 : 64 ≤ sizeLine := by decide
  omega
section
variable {P : Program} {w : World} {K : PySem.W.Frag} {mg : Str → Option Value} {base : Heap}
def NFormed : List Str := ["value", "places", "side", "place"]
theorem scFormed : FnScope NFormed ["value", "places"] (defScope (top 10)) := ⟨rfl, rfl, rfl, by decide +kernel, rfl, by decide +kernel, by decide +kernel⟩
theorem ok_formed (T : Tx K mg) : Fd P w K mg base CX0 3 "formed_premise" ["value", "places"] (spFormed K) := by
  obtain ⟨fd, F⟩ := T.F_formed_premise
  refine ⟨fd, ?_, F.bindsN fun _ _ _ _ _ _ us hl => match us, hl with | [_, _], _ => rfl, F.kp⟩
  refine F.ok scFormed (fun vs H Q E h => ?_) (fun cdv A outer s H vs Q E hr h => ?_)
  · obtain ⟨v, d, n, rfl, _⟩ := h
    rfl
  · obtain ⟨v, d, n, rfl, hd, few, kn, ks⟩ := h
    refine ⟨_, PSs.nox (pss_cons (ps_if (PW.pt (pw_or (pt_not (pt_val (pe_fdD (ok_seq T) (hr.mono (by decide)) rfl T.g_is_sequence pass0 (pa_cons (pv 0) pa_nil)))) (pw_or1 (pt_cmpR op_ne (pe_callB call_len_seq (by rfl) T.b_len PySem.boot_len (pa_cons (pv 0) pa_nil)) pe_int (nomark _)))))
        (pss_one (ps_ret pe_non)) pss_nil)
      (pss_cons (ps_for PassesOwn.never rfl (pi_sq (pv 0)) (pg_name (i := 2) scFormed.nd rfl (Or.inl rfl))
        (pss_cons (ps_if (pt_not (pt_val (pe_fdD (ok_seq T) (hr.mono (by decide)) rfl T.g_is_sequence pass0 (pa_cons (pv 2) pa_nil)))) (pss_one (ps_ret pe_non)) pss_nil)
          (pss_one (ps_if (pt_not (pt_val (pe_callB (cr_all (by rfl)) (by rfl) T.b_all (by decide +kernel) (pa_cons
            (pe_lc (own := [("place", 3)]) (g := gName 3) (tt := tYes) rfl scFormed.nd (pi_sq (pv 2)) (blkOk_by (N := NFormed) (sc := defScope (top 10)) (by decide +kernel)) (fun _ _ _ _ _ => pg_name (i := 3) scFormed.nd rfl (Or.inl rfl)) (fun _ _ _ _ _ => pts_nil)
              (fun _ _ _ _ _ => pe_and (pe_fd (ok_num T) (hr.mono (by decide)) rfl T.g_is_number pass0 (pa_cons (pv 3) pa_nil)) (pe_one (pe_chain op_le op_le pe_int (pv 3) (pv 1))))) pa_nil))))
            (pss_one (ps_ret pe_non)) pss_nil))))
      (pss_one (ps_ret (pe_tup (pa_cons (pe_fd (ok_lot T) (hr.mono (by decide)) rfl T.g_lot_of pass0 (pa_cons (pe_ix ix_sq (pv 0) pe_int (fun _ _ => rfl)) pa_nil)) (pa_cons (pe_fd (ok_lot T) (hr.mono (by decide)) rfl T.g_lot_of pass0 (pa_cons (pe_ix ix_sq (pv 0) pe_int (fun _ _ => rfl)) pa_nil)) pa_nil))))))), ?_⟩
    cases e : itemsD d with
    | none =>
      refine ⟨_, rfl, v, d, rfl, hd, _, rfl, ?_⟩
      rw [seqB_items, e]
      exact iteT (iteT (kn (by unfold premD; rw [e]) H (same_refl H)))
    | some ds =>
      obtain ⟨a, vs, rfl, hq, ha⟩ := dp_items hd e
      refine ⟨_, rfl, .ref a, d, rfl, hd, _, rfl, ?_⟩
      rw [seqB_items, e]
      refine iteF ⟨_, rfl, a, vs, rfl, hq, rfl, _, rfl, ?_⟩
      have hl := dpAll_len ha
      refine ite2 (fun c => ?_) (fun c => ?_)
      · refine kn (prem_none e fun z => ?_) H (same_refl H)
        rw [hl, z] at c
        cases c
      · have l2 : vs.length = 2 := by
          have c2 : decide (V.int (vs.length : Int) = V.int 2) = true := by simpa using c
          have c3 := of_decide_eq_true c2
          simp only [V.int.injEq] at c3
          omega
        refine ⟨_, rfl, a, rfl, for_sq (fun i σ H' => (∃ s2 s3, σ = [some (.ref a), some (.int n), s2, s3]) ∧ Same H H' ∧ ∀ j, j < i → ∀ x, ds[j]? = some x → sideD n x ≠ none) hq ⟨⟨_, _, rfl⟩, same_refl H, fun j hj => absurd hj (Nat.not_lt_zero j)⟩
          (fun i σ H' _ p => ⟨fun z => p.2.1.seq z, fun z => grow_sqT (grow_same p.2.1) z⟩) (fun i x σ H' hx p => ?_) (fun σ H' p => ?_)⟩
        · obtain ⟨⟨s2, s3, rfl⟩, s1, ok⟩ := p
          obtain ⟨dx, hdx, px⟩ := dpAll_get ha hx
          have px' := dp_mono s1 _ _ px
          cases ex : itemsD dx with
          | none =>
            refine ⟨_, rfl, x, dx, rfl, px', _, rfl, ?_⟩
            rw [seqB_items, ex]
            exact iteT (kn (prem_bad e (List.mem_of_getElem? hdx) (by unfold sideD; rw [ex])) H' s1)
          | some es =>
            obtain ⟨b, us, rfl, hqb, hb⟩ := dp_items px' ex
            have fe := few ds e dx (List.mem_of_getElem? hdx) es ex
            refine ⟨_, rfl, .ref b, dx, rfl, px', _, rfl, ?_⟩
            rw [seqB_items, ex]
            refine iteF ⟨_, rfl, b, rfl, lc_sq (fun i => (es.take i).map fun d => V.bl (okP n d)) hqb rfl (fun D hD j y H3 hy p => ?_) (fun D H3 hD p => ?_)⟩
            · obtain ⟨dy, hdy, py⟩ := dpAll_get hb hy
              refine ⟨rfl, _, rfl, y, dy, rfl, dp_mono p.1 _ _ py, _, rfl, ?_⟩
              have fin : ∀ {k : Bool}, k = okP n dy → ∃ acc, H3 D = some (.lst acc) ∧ acc.length < sizeLine ∧ LcI H' D ((es.take (j + 1)).map fun d => V.bl (okP n d)) (upd H3 D (.lst (acc ++ [.bl k]))) := fun {k} ek =>
                lci_step p hD (take_few (n := 0) fe) (by rw [out_step hdy, ek])
              cases py with
              | int m =>
                refine ite2 (fun c => ?_) (fun c => ?_)
                · refine ⟨_, rfl, _, _, rfl, rfl, _, rfl, ite2 (fun c2 => ⟨_, rfl, _, _, rfl, rfl, fin ?_⟩) (fun c2 => fin ?_)⟩
                  · show _ = (decide (0 ≤ m) && (decide (1 ≤ m) && decide (m ≤ n)))
                    rw [show decide (0 ≤ m) = true from c, c2]
                    rfl
                  · show _ = (decide (0 ≤ m) && (decide (1 ≤ m) && decide (m ≤ n)))
                    rw [show decide (0 ≤ m) = true from c, Bool.eq_false_iff.mpr c2]
                    rfl
                · refine fin ?_
                  show _ = (decide (0 ≤ m) && (decide (1 ≤ m) && decide (m ≤ n)))
                  rw [show decide (0 ≤ m) = false from Bool.eq_false_iff.mpr c]
                  rfl
              | _ => exact iteF (fin rfl)
            · have lu := dpAll_len hb
              have ez : (es.take us.length).map (fun d => V.bl (okP n d)) = (es.map (okP n)).map V.bl := by
                rw [lu, List.take_length, List.map_map]
                rfl
              rw [ez] at p
              have s3' := same_trans s1 p.1
              refine ⟨D, _, rfl, SqL.of p.2, _, rfl, ?_⟩
              cases eo : es.all (okP n) with
              | true =>
                have z : ((es.map (okP n)).all id) = true := by
                  rw [List.all_map]
                  exact eo
                rw [z]
                refine iteF ⟨⟨_, _, rfl⟩, s3', fun j hj y hy => ?_⟩
                by_cases ej : j = i
                · subst ej
                  rw [hdx] at hy
                  cases hy
                  unfold sideD
                  rw [ex]
                  show (if es.all (okP n) = true then _ else _) ≠ none
                  rw [eo]
                  exact fun z => nomatch z
                · exact ok j (by omega) y hy
              | false =>
                have z : ((es.map (okP n)).all id) = false := by
                  rw [List.all_map]
                  exact eo
                rw [z]
                refine iteT (kn (prem_bad e (List.mem_of_getElem? hdx) ?_) H3 s3')
                unfold sideD
                rw [ex]
                show (if es.all (okP n) = true then _ else _) = none
                rw [eo]
                rfl
        · obtain ⟨⟨s2, s3, rfl⟩, s1, ok⟩ := p
          obtain ⟨x0, x1, v0, v1, rfl, rfl, p0, p1⟩ := dp_two ha l2
          cases e0 : sideD n x0 with
          | none => exact absurd e0 (ok 0 (by show 0 < 2; omega) x0 rfl)
          | some l =>
            cases e1 : sideD n x1 with
            | none => exact absurd e1 (ok 1 (by show 1 < 2; omega) x1 rfl)
            | some r =>
              obtain ⟨a0, es0, rfl, q0, i0, len0⟩ := side_sq (dp_mono s1 _ _ p0) e0
              obtain ⟨a1, es1, rfl, q1, i1, len1⟩ := side_sq (dp_mono s1 _ _ p1) e1
              have f0 := few _ e x0 (by simp) es0 i0
              have f1 := few _ e x1 (by simp) es1 i1
              refine ixv rfl (same_sq s1 hq) rfl ⟨a0, l, rfl, q0, by omega, fun H1 t1 g1 n1 h1 => ?_⟩
              refine ixv rfl (same_sq (same_trans s1 g1) hq) rfl ⟨a1, r, rfl, same_sq g1 q1, by omega, fun H2 t2 g2 n2 h2 => ?_⟩
              refine ⟨(by show 2 ≤ sizeLine; decide), fun t ht => ks _ (prem_some e e0 e1) _ _ (same_upd (same_trans s1 (same_trans g1 g2)) ?_) (pm_make upd_same ?_ ?_)⟩
              · cases q : H t with
                | none => rfl
                | some o =>
                  rw [same_trans s1 (same_trans g1 g2) t o q] at ht
                  cases ht
              · rw [upd_ne (ne_of_none (g2 _ _ h1) ht)]
                exact g2 _ _ h1
              · rw [upd_ne (ne_of_none h2 ht)]
                exact h2
end
end K07

set_option Elab.async false
set_option linter.all false
set_option maxRecDepth 100000
set_option maxHeartbeats 4000000
namespace K07
open PySem PySem.Spec PyProof.Rows L2 Say
/-! the mathematics of steps, over plain lists -/
def bothB (p : Pm) : Bool := p.1.any fun x => decide (x ∈ p.2)
def withinB (p q : Pm) : Bool := p.1.all (fun x => decide (x ∈ q.1)) && p.2.all (fun x => decide (x ∈ q.2))
def canB (p q : Pm) (x : Int) : Bool := decide (x ∈ p.2) && decide (x ∈ q.1)
def but (x : Int) (xs : List Int) : List Int := xs.filter fun y => decide (y ≠ x)
def stepP (p q : Pm) (x : Int) : Pm := (ordI (p.1 ++ but x q.1), ordI (but x p.2 ++ q.2))
/-- a step: one, other, place -/
abbrev Stp := Nat × Nat × Int
abbrev E0 : Pm := ([], [])
def gp (m : List Pm) (i : Nat) : Pm := m.getD i E0
theorem mem_but {x y : Int} {xs : List Int} : y ∈ but x xs ↔ y ∈ xs ∧ y ≠ x := by simp [but]
theorem canB_iff {p q : Pm} {x : Int} : canB p q x = true ↔ x ∈ p.2 ∧ x ∈ q.1 := by simp [canB]
theorem mem_step1 {p q : Pm} {x y : Int} : y ∈ (stepP p q x).1 ↔ y ∈ p.1 ∨ (y ∈ q.1 ∧ y ≠ x) := by simp [stepP, mem_ordI, mem_but]
theorem mem_step2 {p q : Pm} {x y : Int} : y ∈ (stepP p q x).2 ↔ (y ∈ p.2 ∧ y ≠ x) ∨ y ∈ q.2 := by simp [stepP, mem_ordI, mem_but]
theorem within0 {p : Pm} : withinB p E0 = true ↔ p = E0 := by
  obtain ⟨a, b⟩ := p
  cases a <;> cases b <;> simp [withinB]
/-! ### 1. truth -/
def hold (v : Int → Bool) (p : Pm) : Prop := (∃ x ∈ p.1, v x = false) ∨ ∃ x ∈ p.2, v x = true
theorem hold_step {v : Int → Bool} {p q : Pm} {x : Int} (hp : hold v p) (hq : hold v q) : hold v (stepP p q x) := by
  by_cases hx : v x = true
  · rcases hq with ⟨y, hy, e⟩ | ⟨y, hy, e⟩
    · refine .inl ⟨y, mem_step1.mpr (.inr ⟨hy, fun z => ?_⟩), e⟩
      rw [z, hx] at e
      cases e
    · exact .inr ⟨y, mem_step2.mpr (.inr hy), e⟩
  · rcases hp with ⟨y, hy, e⟩ | ⟨y, hy, e⟩
    · exact .inl ⟨y, mem_step1.mpr (.inl hy), e⟩
    · refine .inr ⟨y, mem_step2.mpr (.inl ⟨hy, fun z => ?_⟩), e⟩
      rw [z] at e
      exact hx e
theorem not_hold0 {v : Int → Bool} : ¬ hold v E0 := by
  rintro (⟨x, h, _⟩ | ⟨x, h, _⟩) <;> cases h
theorem hold_both {v : Int → Bool} {p : Pm} (h : bothB p = true) : hold v p := by
  simp only [bothB, List.any_eq_true, decide_eq_true_eq] at h
  obtain ⟨x, h1, h2⟩ := h
  cases e : v x with
  | true => exact .inr ⟨x, h2, e⟩
  | false => exact .inl ⟨x, h1, e⟩
/-- what is closed under steps, without the empty one, all holds somewhere -/
theorem some_row (C : List Pm) (h0 : E0 ∉ C) (cl : ∀ p ∈ C, ∀ q ∈ C, ∀ x, canB p q x = true → stepP p q x ∈ C ∨ bothB (stepP p q x) = true)
    (pos : ∀ p ∈ C, ∀ x, x ∈ p.1 ∨ x ∈ p.2 → 1 ≤ x) : ∀ k : Nat, ∃ v : Int → Bool, ∀ p ∈ C, (∀ x, x ∈ p.1 ∨ x ∈ p.2 → x ≤ (k : Int)) → hold v p := by
  intro k
  induction k with
  | zero =>
    refine ⟨fun _ => true, fun p hp hx => ?_⟩
    obtain ⟨a, b⟩ := p
    cases a with
    | cons x r =>
      have h1 := pos _ hp x (.inl (by simp))
      have h2 := hx x (.inl (by simp))
      omega
    | nil =>
      cases b with
      | cons x r =>
        have h1 := pos _ hp x (.inr (by simp))
        have h2 := hx x (.inr (by simp))
        omega
      | nil => exact absurd hp h0
  | succ k ih =>
    obtain ⟨v, hv⟩ := ih
    by_cases g0 : ∀ p ∈ C, (∀ x, x ∈ p.1 ∨ x ∈ p.2 → x ≤ ((k + 1 : Nat) : Int)) → hold (fun y => if y = (k : Int) + 1 then false else v y) p
    · exact ⟨_, g0⟩
    by_cases g1 : ∀ p ∈ C, (∀ x, x ∈ p.1 ∨ x ∈ p.2 → x ≤ ((k + 1 : Nat) : Int)) → hold (fun y => if y = (k : Int) + 1 then true else v y) p
    · exact ⟨_, g1⟩
    exfalso
    simp only [Classical.not_forall] at g0 g1
    obtain ⟨p, hp, hpx, np⟩ := g0
    obtain ⟨q, hq, hqx, nq⟩ := g1
    have np1 : ∀ y ∈ p.1, y ≠ (k : Int) + 1 ∧ v y = true := fun y hy => by
      by_cases e : y = (k : Int) + 1
      · exact absurd (.inl ⟨y, hy, by simp [e]⟩) np
      · refine ⟨e, ?_⟩
        cases ev : v y with
        | true => rfl
        | false => exact absurd (.inl ⟨y, hy, by simp [e, ev]⟩) np
    have np2 : ∀ y ∈ p.2, y = (k : Int) + 1 ∨ v y = false := fun y hy => by
      by_cases e : y = (k : Int) + 1
      · exact .inl e
      · cases ev : v y with
        | false => exact .inr rfl
        | true => exact absurd (.inr ⟨y, hy, by simp [e, ev]⟩) np
    have nq1 : ∀ y ∈ q.1, y = (k : Int) + 1 ∨ v y = true := fun y hy => by
      by_cases e : y = (k : Int) + 1
      · exact .inl e
      · cases ev : v y with
        | true => exact .inr rfl
        | false => exact absurd (.inl ⟨y, hy, by simp [e, ev]⟩) nq
    have nq2 : ∀ y ∈ q.2, y ≠ (k : Int) + 1 ∧ v y = false := fun y hy => by
      by_cases e : y = (k : Int) + 1
      · exact absurd (.inr ⟨y, hy, by simp [e]⟩) nq
      · refine ⟨e, ?_⟩
        cases ev : v y with
        | false => rfl
        | true => exact absurd (.inr ⟨y, hy, by simp [e, ev]⟩) nq
    have kp : (k : Int) + 1 ∈ p.2 := by
      by_cases e : (k : Int) + 1 ∈ p.2
      · exact e
      · have h := hv p hp fun x hx => by
          have b := hpx x hx
          have ne : x ≠ (k : Int) + 1 := fun z => by
            rcases hx with hx | hx
            · exact (np1 x hx).1 z
            · exact e (z ▸ hx)
          omega
        rcases h with ⟨y, hy, ev⟩ | ⟨y, hy, ev⟩
        · rw [(np1 y hy).2] at ev
          cases ev
        · rcases np2 y hy with z | z
          · exact absurd (z ▸ hy) e
          · rw [z] at ev
            cases ev
    have kq : (k : Int) + 1 ∈ q.1 := by
      by_cases e : (k : Int) + 1 ∈ q.1
      · exact e
      · have h := hv q hq fun x hx => by
          have b := hqx x hx
          have ne : x ≠ (k : Int) + 1 := fun z => by
            rcases hx with hx | hx
            · exact e (z ▸ hx)
            · exact (nq2 x hx).1 z
          omega
        rcases h with ⟨y, hy, ev⟩ | ⟨y, hy, ev⟩
        · rcases nq1 y hy with z | z
          · exact absurd (z ▸ hy) e
          · rw [z] at ev
            cases ev
        · rw [(nq2 y hy).2] at ev
          cases ev
    have l1 : ∀ y ∈ (stepP p q ((k : Int) + 1)).1, y ≠ (k : Int) + 1 ∧ v y = true := fun y hy => by
      rcases mem_step1.mp hy with hy | ⟨hy, ne⟩
      · exact np1 y hy
      · exact ⟨ne, (nq1 y hy).resolve_left ne⟩
    have l2 : ∀ y ∈ (stepP p q ((k : Int) + 1)).2, y ≠ (k : Int) + 1 ∧ v y = false := fun y hy => by
      rcases mem_step2.mp hy with ⟨hy, ne⟩ | hy
      · exact ⟨ne, (np2 y hy).resolve_left ne⟩
      · exact nq2 y hy
    rcases cl p hp q hq _ (canB_iff.mpr ⟨kp, kq⟩) with h | h
    · have h2 := hv _ h fun x hx => by
        have b : x ≤ ((k + 1 : Nat) : Int) := by
          rcases hx with hx | hx
          · rcases mem_step1.mp hx with hx | ⟨hx, _⟩
            · exact hpx x (.inl hx)
            · exact hqx x (.inl hx)
          · rcases mem_step2.mp hx with ⟨hx, _⟩ | hx
            · exact hpx x (.inr hx)
            · exact hqx x (.inr hx)
        have ne : x ≠ (k : Int) + 1 := by
          rcases hx with hx | hx
          · exact (l1 x hx).1
          · exact (l2 x hx).1
        omega
      rcases h2 with ⟨y, hy, ev⟩ | ⟨y, hy, ev⟩
      · rw [(l1 y hy).2] at ev
        cases ev
      · rw [(l2 y hy).2] at ev
        cases ev
    · simp only [bothB, List.any_eq_true, decide_eq_true_eq] at h
      obtain ⟨y, h1, h2⟩ := h
      have a := (l1 y h1).2
      rw [(l2 y h2).2] at a
      cases a
/-! ### 2. sheets of three places -/
def can3 (p : Pm) : Prop := (p.1.Pairwise (· < ·) ∧ ∀ x ∈ p.1, 1 ≤ x ∧ x ≤ 3) ∧ p.2.Pairwise (· < ·) ∧ ∀ x ∈ p.2, 1 ≤ x ∧ x ≤ 3
def all8 : List (List Int) := [[], [1], [2], [3], [1, 2], [1, 3], [2, 3], [1, 2, 3]]
def all27 : List Pm := (all8.flatMap fun a => all8.map fun b => (a, b)).filter fun p => !bothB p
theorem len27 : all27.length = 27 := by decide +kernel
theorem in8 {xs : List Int} (h : xs.Pairwise (· < ·)) (b : ∀ x ∈ xs, 1 ≤ x ∧ x ≤ 3) : xs ∈ all8 := by
  have e : xs = ([1, 2, 3] : List Int).filter (fun x => decide (x ∈ xs)) := by
    refine srt_eq h (List.Pairwise.filter _ (by decide)) fun k => ?_
    simp only [List.mem_filter, decide_eq_true_eq]
    constructor
    · intro hk
      refine ⟨?_, hk⟩
      have := b k hk
      have h3 : k = 1 ∨ k = 2 ∨ k = 3 := by omega
      rcases h3 with rfl | rfl | rfl <;> simp
    · exact fun hk => hk.2
  rw [e]
  by_cases h1 : (1 : Int) ∈ xs <;> by_cases h2 : (2 : Int) ∈ xs <;> by_cases h3 : (3 : Int) ∈ xs <;> simp [List.filter, h1, h2, h3, all8]
theorem in27 {p : Pm} (h : can3 p) (nb : bothB p = false) : p ∈ all27 := by
  obtain ⟨a, b⟩ := p
  simp only [all27, List.mem_filter, List.mem_flatMap, List.mem_map, nb]
  exact ⟨⟨a, in8 h.1.1 h.1.2, b, in8 h.2.1 h.2.2, rfl⟩, rfl⟩
theorem nodup_le {α : Type} [DecidableEq α] : ∀ {xs ys : List α}, xs.Nodup → (∀ x ∈ xs, x ∈ ys) → xs.length ≤ ys.length
  | [], _, _, _ => Nat.zero_le _
  | x :: xs, ys, h, hs => by
    obtain ⟨h1, h2⟩ := List.nodup_cons.mp h
    have m := hs x (by simp)
    have r := nodup_le (xs := xs) (ys := ys.erase x) h2 fun y hy => by
      refine (List.mem_erase_of_ne ?_).mpr (hs y (by simp [hy]))
      rintro rfl
      exact h1 hy
    rw [List.length_erase_of_mem m] at r
    have := List.length_pos_of_mem m
    simp only [List.length_cons]
    omega
theorem can3_step {p q : Pm} {x : Int} (hp : can3 p) (hq : can3 q) : can3 (stepP p q x) := by
  refine ⟨⟨srt_ordI, fun y hy => ?_⟩, srt_ordI, fun y hy => ?_⟩
  · rcases mem_step1.mp hy with h | h
    · exact hp.1.2 y h
    · exact hq.1.2 y h.1
  · rcases mem_step2.mp hy with h | h
    · exact hp.2.2 y h.1
    · exact hq.2.2 y h
/-! ### 3. the search -/
structure S where
  made : List Pm
  orig : List (Option Stp)
  seen : List (Pm × Nat)
  queue : List Nat
  done : List Nat
def inS (seen : List (Pm × Nat)) (p : Pm) : Bool := seen.any fun q => decide (q.1 = p)
def pairSt (m : List Pm) (o a : Nat) : List Stp := ((gp m o).2.filter fun x => canB (gp m o) (gp m a) x).map fun x => (o, a, x)
def stepsAt (m : List Pm) (done : List Nat) (a : Nat) : List Stp := done.flatMap fun o => pairSt m o a ++ pairSt m a o
def newP (s : S) (t : Stp) : Pm := stepP (gp s.made t.1) (gp s.made t.2.1) t.2.2
def old (s : S) (t : Stp) : Bool := inS s.seen (newP s t) || bothB (newP s t)
def put (s : S) (t : Stp) : S := ⟨s.made ++ [newP s t], s.orig ++ [some t], s.seen ++ [(newP s t, s.made.length)], s.queue ++ [s.made.length], s.done⟩
def inner (g : Pm) : List Stp → S → S × Bool
  | [], s => (s, false)
  | t :: r, s => if old s t = true then inner g r s else if withinB (newP s t) g = true then (put s t, true) else inner g r (put s t)
def turn (s : S) (a : Nat) (q : List Nat) : S := { s with queue := q, done := s.done ++ [a] }
def outer (g : Pm) : Nat → S → Option S
  | 0, _ => none
  | n + 1, s => match s.queue with
    | [] => none
    | a :: q => match inner g (stepsAt s.made (s.done ++ [a]) a) (turn s a q) with
      | (s2, true) => some s2
      | (s2, false) => outer g n s2
def seenGo : Nat → List Pm → List (Pm × Nat) → List (Pm × Nat)
  | _, [], acc => acc
  | i, p :: r, acc => seenGo (i + 1) r (if !inS acc p && !bothB p then acc ++ [(p, i)] else acc)
def init (told : List Pm) : S := ⟨told, told.map fun _ => none, seenGo 0 told [], (seenGo 0 told []).map (·.2), []⟩
def pot (s : S) : Nat := s.queue.length + (27 - s.seen.length)
theorem inS_iff {seen : List (Pm × Nat)} {p : Pm} : inS seen p = true ↔ p ∈ seen.map (·.1) := by
  simp only [inS, List.any_eq_true, decide_eq_true_eq, List.mem_map]
/-- what holds throughout; n told ones -/
structure G (go : Pm) (T : List Pm) (n : Nat) (s : S) : Prop where
  len : s.orig.length = s.made.length
  can : ∀ p ∈ s.made, can3 p
  emp : ∀ p ∈ s.made, withinB p go = false
  nd : (s.seen.map (·.1)).Nodup
  nb : ∀ q ∈ s.seen, bothB q.1 = false
  at_ : ∀ q ∈ s.seen, s.made[q.2]? = some q.1
  told : n ≤ s.made.length
  none_ : ∀ i, i < n → s.orig[i]? = some none
  org : ∀ i, n ≤ i → i < s.made.length → ∃ t : Stp, s.orig[i]? = some (some t) ∧ t.1 < i ∧ t.2.1 < i ∧ canB (gp s.made t.1) (gp s.made t.2.1) t.2.2 = true ∧ gp s.made i = stepP (gp s.made t.1) (gp s.made t.2.1) t.2.2
  qd : ∀ i, i ∈ s.queue ∨ i ∈ s.done → i < s.made.length
  cov : ∀ q ∈ s.seen, q.2 ∈ s.queue ∨ q.2 ∈ s.done
  all : ∀ p ∈ s.made, inS s.seen p = true ∨ bothB p = true
  cnt : s.made.length - n < s.seen.length ∨ s.seen = [] ∧ s.queue = []
  isq : ∀ i, i ∈ s.queue ∨ i ∈ s.done → inS s.seen (gp s.made i) = true
  tk : s.made.take n = T
section
variable {go : Pm} {T : List Pm}
theorem gp_lt {m : List Pm} {i : Nat} (h : i < m.length) (p : Pm) : gp (m ++ [p]) i = gp m i := by
  simp only [gp, List.getD_eq_getElem?_getD, List.getElem?_append_left h]
theorem gp_mem {m : List Pm} {i : Nat} (h : i < m.length) : gp m i ∈ m := by
  simp only [gp, List.getD_eq_getElem?_getD, List.getElem?_eq_getElem h, Option.getD_some]
  exact List.getElem_mem h
theorem gp_get {m : List Pm} {i : Nat} {p : Pm} (h : m[i]? = some p) : gp m i = p := by
  simp only [gp, List.getD_eq_getElem?_getD, h, Option.getD_some]
theorem gp_at {m : List Pm} {i : Nat} (h : i < m.length) : m[i]? = some (gp m i) := by
  simp only [gp, List.getD_eq_getElem?_getD, List.getElem?_eq_getElem h, Option.getD_some]
theorem G.le27 {n : Nat} {s : S} (g : G go T n s) : s.seen.length ≤ 27 := by
  have h := nodup_le (ys := all27) g.nd fun p hp => by
    obtain ⟨q, hq, rfl⟩ := List.mem_map.mp hp
    exact in27 (g.can _ (List.mem_of_getElem? (g.at_ q hq))) (g.nb q hq)
  rw [List.length_map, len27] at h
  exact h
/-- a step that may be done, whose result is no empty sheet -/
def okT (s : S) (t : Stp) : Prop := t.1 ∈ s.done ∧ t.2.1 ∈ s.done ∧ canB (gp s.made t.1) (gp s.made t.2.1) t.2.2 = true
theorem inS_app {seen : List (Pm × Nat)} {p : Pm} {q : Pm × Nat} : inS (seen ++ [q]) p = (inS seen p || decide (q.1 = p)) := by simp [inS]
theorem put_ok {n : Nat} {s : S} {t : Stp} (g : G go T n s) (h : okT s t) (ho : old s t = false) (ne : withinB (newP s t) go = false) : G go T n (put s t) := by
  obtain ⟨d1, d2, h3⟩ := h
  have h1 := g.qd _ (.inr d1)
  have h2 := g.qd _ (.inr d2)
  simp only [old, Bool.or_eq_false_iff] at ho
  have c3 : can3 (newP s t) := can3_step (g.can _ (gp_mem h1)) (g.can _ (gp_mem h2))
  have nm : newP s t ∉ s.seen.map (·.1) := fun z => by
    rw [inS_iff.mpr z] at ho
    cases ho.1
  have gpl : ∀ i, i < s.made.length → gp (put s t).made i = gp s.made i := fun i hi => gp_lt hi _
  have ml : (put s t).made.length = s.made.length + 1 := by simp [put]
  have gpn : gp (put s t).made s.made.length = newP s t := by simp [put, gp, List.getD_eq_getElem?_getD]
  constructor
  · simp [put, g.len]
  · intro p hp
    rcases List.mem_append.mp hp with hp | hp
    · exact g.can p hp
    · simp only [List.mem_singleton] at hp
      rw [hp]
      exact c3
  · intro p hp
    rcases List.mem_append.mp hp with hp | hp
    · exact g.emp p hp
    · simp only [List.mem_singleton] at hp
      rw [hp]
      exact ne
  · show ((s.seen ++ [(newP s t, s.made.length)]).map (·.1)).Nodup
    rw [List.map_append]
    refine List.nodup_append.mpr ⟨g.nd, by simp, fun a ha b hb => ?_⟩
    simp only [List.map_cons, List.map_nil, List.mem_singleton] at hb
    rw [hb]
    rintro rfl
    exact nm ha
  · intro q hq
    rcases List.mem_append.mp hq with hq | hq
    · exact g.nb q hq
    · simp only [List.mem_singleton] at hq
      rw [hq]
      exact ho.2
  · intro q hq
    rcases List.mem_append.mp hq with hq | hq
    · have e := g.at_ q hq
      have l : q.2 < s.made.length := (List.getElem?_eq_some_iff.mp e).1
      show (s.made ++ [_])[q.2]? = _
      rw [List.getElem?_append_left l]
      exact e
    · simp only [List.mem_singleton] at hq
      rw [hq]
      show (s.made ++ [newP s t])[s.made.length]? = some (newP s t)
      simp
  · have := g.told
    omega
  · intro i hi
    have := g.told
    have l := g.len
    show (s.orig ++ [_])[i]? = _
    rw [List.getElem?_append_left (by omega)]
    exact g.none_ i hi
  · intro i hi hl
    rw [ml] at hl
    by_cases e : i < s.made.length
    · obtain ⟨u, a1, a2, a3, a4, a5⟩ := g.org i hi e
      refine ⟨u, ?_, a2, a3, ?_, ?_⟩
      · show (s.orig ++ [_])[i]? = _
        rw [List.getElem?_append_left (by rw [g.len]; exact e)]
        exact a1
      · rw [gpl _ (by omega), gpl _ (by omega)]
        exact a4
      · rw [gpl i e, gpl _ (by omega), gpl _ (by omega)]
        exact a5
    · have ei : i = s.made.length := by omega
      subst ei
      refine ⟨t, ?_, h1, h2, ?_, ?_⟩
      · show (s.orig ++ [some t])[s.made.length]? = _
        rw [← g.len]
        simp
      · rw [gpl _ h1, gpl _ h2]
        exact h3
      · rw [gpn, gpl _ h1, gpl _ h2]
        rfl
  · intro i hi
    rw [ml]
    rcases hi with hi | hi
    · rcases List.mem_append.mp hi with hi | hi
      · have := g.qd i (.inl hi)
        omega
      · simp only [List.mem_singleton] at hi
        omega
    · have := g.qd i (.inr hi)
      omega
  · intro q hq
    rcases List.mem_append.mp hq with hq | hq
    · rcases g.cov q hq with z | z
      · exact .inl (List.mem_append_left _ z)
      · exact .inr z
    · simp only [List.mem_singleton] at hq
      rw [hq]
      exact .inl (List.mem_append_right _ (by simp))
  · intro p hp
    show inS (s.seen ++ [_]) p = true ∨ _
    rw [inS_app]
    rcases List.mem_append.mp hp with hp | hp
    · rcases g.all p hp with z | z
      · exact .inl (by rw [z]; rfl)
      · exact .inr z
    · simp only [List.mem_singleton] at hp
      refine .inl ?_
      simp [hp]
  · refine .inl ?_
    have e2 : (put s t).seen.length = s.seen.length + 1 := by simp [put]
    rw [ml, e2]
    have := g.told
    rcases g.cnt with z | ⟨z1, z2⟩
    · omega
    · exfalso
      have y := g.isq _ (.inr d1)
      rw [z1] at y
      cases y
  · intro i hi
    show inS (s.seen ++ [_]) _ = true
    rw [inS_app]
    have case1 : i ∈ s.queue ∨ i ∈ s.done → (inS s.seen (gp (put s t).made i) || decide (newP s t = gp (put s t).made i)) = true := fun z => by
      rw [gpl i (g.qd i z), g.isq i z]
      rfl
    rcases hi with hi | hi
    · rcases List.mem_append.mp hi with hi | hi
      · exact case1 (.inl hi)
      · simp only [List.mem_singleton] at hi
        rw [hi, gpn]
        simp
    · exact case1 (.inr hi)
  · show (s.made ++ [_]).take n = T
    rw [List.take_append_of_le_length g.told]
    exact g.tk

/-! ### 4. the search goes on -/
theorem old_put {s : S} {t u : Stp} {p : Pm} (h : inS s.seen p = true) : inS (put s t).seen p = true := by
  show inS (s.seen ++ [_]) p = true
  rw [inS_app, h]
  rfl
structure Later (s s2 : S) : Prop where
  done : s2.done = s.done
  gp : ∀ i, i < s.made.length → gp s2.made i = K07.gp s.made i
  seen : ∀ p, inS s.seen p = true → inS s2.seen p = true
  len : s.made.length ≤ s2.made.length
  pot : pot s2 = K07.pot s
theorem Later.refl (s : S) : Later s s := ⟨rfl, fun _ _ => rfl, fun _ h => h, Nat.le_refl _, rfl⟩
theorem Later.trans {a b c : S} (x : Later a b) (y : Later b c) : Later a c :=
  ⟨y.done.trans x.done, fun i hi => (y.gp i (Nat.lt_of_lt_of_le hi x.len)).trans (x.gp i hi), fun p h => y.seen p (x.seen p h), Nat.le_trans x.len y.len, y.pot.trans x.pot⟩
theorem later_put {n : Nat} {s : S} {t : Stp} (g2 : G go T n (put s t)) : Later s (put s t) := by
  refine ⟨rfl, fun i hi => gp_lt hi _, fun p h => old_put (u := t) h, by simp [put], ?_⟩
  have l := g2.le27
  have e : (put s t).seen.length = s.seen.length + 1 := by simp [put]
  have e2 : (put s t).queue.length = s.queue.length + 1 := by simp [put]
  unfold pot
  omega
theorem okT_later {n : Nat} {s s2 : S} {t : Stp} (g : G go T n s) (l : Later s s2) (h : okT s t) : okT s2 t := by
  obtain ⟨d1, d2, h3⟩ := h
  refine ⟨by rw [l.done]; exact d1, by rw [l.done]; exact d2, ?_⟩
  rw [l.gp _ (g.qd _ (.inr d1)), l.gp _ (g.qd _ (.inr d2))]
  exact h3
/-- what a search that ended with the empty sheet leaves -/
structure Won (go : Pm) (T : List Pm) (n : Nat) (s : S) : Prop where
  len : s.orig.length = s.made.length
  told : n < s.made.length
  top : s.made.length ≤ n + 26
  none_ : ∀ i, i < n → s.orig[i]? = some none
  org : ∀ i, n ≤ i → i < s.made.length → ∃ t : Stp, s.orig[i]? = some (some t) ∧ t.1 < i ∧ t.2.1 < i ∧ canB (gp s.made t.1) (gp s.made t.2.1) t.2.2 = true ∧ gp s.made i = stepP (gp s.made t.1) (gp s.made t.2.1) t.2.2
  last : withinB (gp s.made (s.made.length - 1)) go = true
  tk : s.made.take n = T
theorem won_put {n : Nat} {s : S} {t : Stp} (g : G go T n s) (h : okT s t) (ho : old s t = false) (e : withinB (newP s t) go = true) : Won go T n (put s t) := by
  obtain ⟨d1, d2, h3⟩ := h
  have h1 := g.qd _ (.inr d1)
  have h2 := g.qd _ (.inr d2)
  have gpl : ∀ i, i < s.made.length → gp (put s t).made i = gp s.made i := fun i hi => gp_lt hi _
  have ml : (put s t).made.length = s.made.length + 1 := by simp [put]
  have gpn : gp (put s t).made s.made.length = newP s t := by simp [put, gp, List.getD_eq_getElem?_getD]
  have l27 : s.seen.length + 1 ≤ 27 := by
    simp only [old, Bool.or_eq_false_iff] at ho
    have nd : ((s.seen ++ [(newP s t, s.made.length)]).map (·.1)).Nodup := by
      rw [List.map_append]
      refine List.nodup_append.mpr ⟨g.nd, by simp, fun a ha b hb => ?_⟩
      simp only [List.map_cons, List.map_nil, List.mem_singleton] at hb
      rw [hb]
      rintro rfl
      rw [inS_iff.mpr ha] at ho
      cases ho.1
    have h := nodup_le (ys := all27) nd fun p hp => by
      obtain ⟨q, hq, rfl⟩ := List.mem_map.mp hp
      rcases List.mem_append.mp hq with hq | hq
      · exact in27 (g.can _ (List.mem_of_getElem? (g.at_ q hq))) (g.nb q hq)
      · simp only [List.mem_singleton] at hq
        rw [hq]
        exact in27 (can3_step (g.can _ (gp_mem h1)) (g.can _ (gp_mem h2))) ho.2
    rw [List.length_map, len27, List.length_append] at h
    simpa using h
  have tl := g.told
  refine ⟨by simp [put, g.len], by omega, ?_, fun i hi => ?_, fun i hi hl => ?_, ?_, ?_⟩
  · rcases g.cnt with z | ⟨z1, _⟩
    · omega
    · have y := g.isq _ (.inr d1)
      rw [z1] at y
      cases y
  · show (s.orig ++ [_])[i]? = _
    have l := g.len
    rw [List.getElem?_append_left (by omega)]
    exact g.none_ i hi
  · rw [ml] at hl
    by_cases e : i < s.made.length
    · obtain ⟨u, a1, a2, a3, a4, a5⟩ := g.org i hi e
      refine ⟨u, ?_, a2, a3, ?_, ?_⟩
      · show (s.orig ++ [_])[i]? = _
        rw [List.getElem?_append_left (by rw [g.len]; exact e)]
        exact a1
      · rw [gpl _ (by omega), gpl _ (by omega)]
        exact a4
      · rw [gpl i e, gpl _ (by omega), gpl _ (by omega)]
        exact a5
    · have ei : i = s.made.length := by omega
      subst ei
      refine ⟨t, ?_, h1, h2, ?_, ?_⟩
      · show (s.orig ++ [some t])[s.made.length]? = _
        rw [← g.len]
        simp
      · rw [gpl _ h1, gpl _ h2]
        exact h3
      · rw [gpn, gpl _ h1, gpl _ h2]
        rfl
  · rw [ml]
    show withinB (gp _ (s.made.length + 1 - 1)) go = true
    rw [Nat.add_sub_cancel, gpn, e]
  · show (s.made ++ [_]).take n = T
    rw [List.take_append_of_le_length g.told]
    exact g.tk
theorem inner_ok {n : Nat} : ∀ (ts : List Stp) (s : S), G go T n s → (∀ t ∈ ts, okT s t) →
    (∃ s2, inner go ts s = (s2, true) ∧ Won go T n s2) ∨
    (∃ s2, inner go ts s = (s2, false) ∧ G go T n s2 ∧ Later s s2 ∧ ∀ t ∈ ts, inS s2.seen (stepP (gp s.made t.1) (gp s.made t.2.1) t.2.2) = true ∨ bothB (stepP (gp s.made t.1) (gp s.made t.2.1) t.2.2) = true)
  | [], s, g, _ => .inr ⟨s, rfl, g, Later.refl s, fun _ h => nomatch h⟩
  | t :: r, s, g, h => by
    have ht := h t (by simp)
    unfold inner
    cases ho : old s t with
    | true =>
      rw [if_pos rfl]
      rcases inner_ok r s g fun u hu => h u (by simp [hu]) with w | ⟨s2, e, g2, l, c⟩
      · exact .inl w
      · refine .inr ⟨s2, e, g2, l, fun u hu => ?_⟩
        rcases List.mem_cons.mp hu with rfl | hu
        · simp only [old, Bool.or_eq_true] at ho
          rcases ho with z | z
          · exact .inl (l.seen _ z)
          · exact .inr z
        · exact c u hu
    | false =>
      rw [if_neg (by simp)]
      by_cases hw : withinB (newP s t) go = true
      · rw [if_pos hw]
        exact .inl ⟨_, rfl, won_put g ht ho hw⟩
      · rw [if_neg hw]
        have g1 := put_ok g ht ho (Bool.eq_false_iff.mpr hw)
        have l1 := later_put g1
        rcases inner_ok r (put s t) g1 fun u hu => okT_later g l1 (h u (by simp [hu])) with w | ⟨s2, e, g2, l, c⟩
        · exact .inl w
        · refine .inr ⟨s2, e, g2, l1.trans l, fun u hu => ?_⟩
          rcases List.mem_cons.mp hu with rfl | hu
          · refine .inl (l.seen _ ?_)
            show inS (s.seen ++ [(newP s u, s.made.length)]) (newP s u) = true
            rw [inS_app]
            simp
          · have q := c u hu
            have hu2 := h u (by simp [hu])
            rw [l1.gp _ (g.qd _ (.inr hu2.1)), l1.gp _ (g.qd _ (.inr hu2.2.1))] at q
            exact q
/-- all steps between done ones are there -/
def Cl (s : S) : Prop := ∀ i ∈ s.done, ∀ j ∈ s.done, ∀ x, canB (gp s.made i) (gp s.made j) x = true → inS s.seen (stepP (gp s.made i) (gp s.made j) x) = true ∨ bothB (stepP (gp s.made i) (gp s.made j) x) = true
theorem mem_pairSt {m : List Pm} {o a : Nat} {t : Stp} : t ∈ pairSt m o a ↔ t.1 = o ∧ t.2.1 = a ∧ canB (gp m o) (gp m a) t.2.2 = true := by
  obtain ⟨i, j, x⟩ := t
  simp only [pairSt, List.mem_map, List.mem_filter, Prod.mk.injEq]
  constructor
  · rintro ⟨y, ⟨h1, h2⟩, rfl, rfl, rfl⟩
    exact ⟨rfl, rfl, h2⟩
  · rintro ⟨rfl, rfl, h⟩
    exact ⟨x, ⟨(canB_iff.mp h).1, h⟩, rfl, rfl, rfl⟩
theorem turn_ok {n : Nat} {s : S} {a : Nat} {q : List Nat} (g : G go T n s) (e : s.queue = a :: q) : G go T n (turn s a q) := by
  refine ⟨g.len, g.can, g.emp, g.nd, g.nb, g.at_, g.told, g.none_, g.org, fun i hi => ?_, fun p hp => ?_, g.all, ?_, fun i hi => ?_, g.tk⟩
  · refine g.qd i ?_
    rw [e]
    rcases hi with hi | hi
    · exact .inl (List.mem_cons_of_mem _ hi)
    · rcases List.mem_append.mp hi with hi | hi
      · exact .inr hi
      · simp only [List.mem_singleton] at hi
        exact .inl (by simp [hi])
  · rcases g.cov p hp with z | z
    · rw [e] at z
      rcases List.mem_cons.mp z with z | z
      · exact .inr (List.mem_append_right _ (by simp [z]))
      · exact .inl z
    · exact .inr (List.mem_append_left _ z)
  · rcases g.cnt with z | ⟨_, z⟩
    · exact .inl z
    · rw [e] at z
      cases z
  · refine g.isq i ?_
    rw [e]
    rcases hi with hi | hi
    · exact .inl (List.mem_cons_of_mem _ hi)
    · rcases List.mem_append.mp hi with hi | hi
      · exact .inr hi
      · simp only [List.mem_singleton] at hi
        exact .inl (by simp [hi])
theorem okT_steps {s : S} {a : Nat} {q : List Nat} : ∀ t ∈ stepsAt s.made (s.done ++ [a]) a, okT (turn s a q) t := by
  intro t ht
  simp only [stepsAt, List.mem_flatMap] at ht
  obtain ⟨o, ho, ht⟩ := ht
  have ha : a ∈ (turn s a q).done := List.mem_append_right _ (by simp)
  rcases List.mem_append.mp ht with ht | ht
  · obtain ⟨e1, e2, c⟩ := mem_pairSt.mp ht
    exact ⟨by rw [e1]; exact ho, by rw [e2]; exact ha, by rw [e1, e2]; exact c⟩
  · obtain ⟨e1, e2, c⟩ := mem_pairSt.mp ht
    exact ⟨by rw [e1]; exact ha, by rw [e2]; exact ho, by rw [e1, e2]; exact c⟩
theorem outer_ok {n : Nat} : ∀ (k : Nat) (s : S), G go T n s → Cl s → pot s ≤ k →
    (∃ s2, outer go k s = some s2 ∧ Won go T n s2) ∨ (outer go k s = none ∧ ∃ s2, G go T n s2 ∧ Cl s2 ∧ s2.queue = [] ∧ ∀ i, i < s.made.length → i < s2.made.length ∧ gp s2.made i = gp s.made i)
  | 0, s, g, c, h => .inr ⟨rfl, s, g, c, by
      have : s.queue.length = 0 := by
        unfold pot at h
        omega
      exact List.length_eq_zero_iff.mp this, fun i hi => ⟨hi, rfl⟩⟩
  | k + 1, s, g, c, h => by
    unfold outer
    cases e : s.queue with
    | nil => exact .inr ⟨rfl, s, g, c, e, fun i hi => ⟨hi, rfl⟩⟩
    | cons a q =>
      have g1 := turn_ok g e
      rcases inner_ok _ (turn s a q) g1 (okT_steps (s := s) (a := a) (q := q)) with ⟨s2, e2, w⟩ | ⟨s2, e2, g2, l, cc⟩
      · refine .inl ⟨s2, ?_, w⟩
        show (match inner go _ _ with | (s2, true) => some s2 | (s2, false) => outer go k s2) = _
        rw [e2]
      · have hk : pot s2 ≤ k := by
          rw [l.pot]
          unfold pot at h ⊢
          rw [e] at h
          simp only [List.length_cons] at h
          show q.length + (27 - s.seen.length) ≤ k
          omega
        have c2 : Cl s2 := by
          intro i hi j hj x cb
          rw [l.done] at hi hj
          have li := g1.qd i (.inr hi)
          have lj := g1.qd j (.inr hj)
          rw [l.gp _ li, l.gp _ lj] at cb ⊢
          have base : i ∈ s.done → j ∈ s.done → inS s2.seen (stepP (gp s.made i) (gp s.made j) x) = true ∨ bothB (stepP (gp s.made i) (gp s.made j) x) = true := fun y1 y2 => by
            rcases c i y1 j y2 x cb with z | z
            · exact .inl (l.seen _ z)
            · exact .inr z
          rcases List.mem_append.mp hi with y1 | y1
          · rcases List.mem_append.mp hj with y2 | y2
            · exact base y1 y2
            · simp only [List.mem_singleton] at y2
              subst y2
              refine cc (i, j, x) ?_
              simp only [stepsAt, List.mem_flatMap]
              exact ⟨i, hi, List.mem_append_left _ (mem_pairSt.mpr ⟨rfl, rfl, cb⟩)⟩
          · simp only [List.mem_singleton] at y1
            subst y1
            refine cc (i, j, x) ?_
            simp only [stepsAt, List.mem_flatMap]
            exact ⟨j, hj, List.mem_append_right _ (mem_pairSt.mpr ⟨rfl, rfl, cb⟩)⟩
        have hr : (match inner go (stepsAt s.made (s.done ++ [a]) a) (turn s a q) with | (s2, true) => some s2 | (s2, false) => outer go k s2) = outer go k s2 := by rw [e2]
        rcases outer_ok k s2 g2 c2 hk with ⟨s3, e3, w⟩ | ⟨e3, s3, g3, c3, q3, l3⟩
        · exact .inl ⟨s3, hr.trans e3, w⟩
        · refine .inr ⟨hr.trans e3, s3, g3, c3, q3, fun i hi => ?_⟩
          have hi2 : i < s2.made.length := Nat.lt_of_lt_of_le hi l.len
          obtain ⟨z1, z2⟩ := l3 i hi2
          exact ⟨z1, z2.trans (l.gp i hi)⟩
/-! ### 5. the start -/
def SG (w : List Pm) (out : List (Pm × Nat)) : Prop := (out.map (·.1)).Nodup ∧ (∀ q ∈ out, bothB q.1 = false) ∧ (∀ q ∈ out, w[q.2]? = some q.1) ∧ ∀ p ∈ w, inS out p = true ∨ bothB p = true
theorem seenGo_ok : ∀ (r : List Pm) (pre : List Pm) (acc : List (Pm × Nat)), (acc.map (·.1)).Nodup → (∀ q ∈ acc, bothB q.1 = false) → (∀ q ∈ acc, (pre ++ r)[q.2]? = some q.1) → (∀ p ∈ pre, inS acc p = true ∨ bothB p = true) →
    SG (pre ++ r) (seenGo pre.length r acc)
  | [], pre, acc, h1, h2, h3, h4 => ⟨h1, h2, h3, fun p hp => h4 p (by simpa using hp)⟩
  | p :: r, pre, acc, h1, h2, h3, h4 => by
    have ih := seenGo_ok r (pre ++ [p]) (if !inS acc p && !bothB p then acc ++ [(p, pre.length)] else acc)
    have el : (pre ++ [p]).length = pre.length + 1 := by simp
    have ea : pre ++ [p] ++ r = pre ++ p :: r := by simp
    rw [el, ea] at ih
    unfold seenGo
    cases c1 : inS acc p with
    | true =>
      simp only [c1, Bool.not_true, Bool.false_and, if_neg (Bool.false_ne_true)] at ih ⊢
      refine ih h1 h2 h3 fun z hz => ?_
      rcases List.mem_append.mp hz with hz | hz
      · exact h4 z hz
      · simp only [List.mem_singleton] at hz
        rw [hz]
        exact .inl c1
    | false =>
      cases c2 : bothB p with
      | true =>
        simp only [c1, c2, Bool.not_true, Bool.and_false, if_neg (Bool.false_ne_true)] at ih ⊢
        refine ih h1 h2 h3 fun z hz => ?_
        rcases List.mem_append.mp hz with hz | hz
        · exact h4 z hz
        · simp only [List.mem_singleton] at hz
          rw [hz]
          exact .inr c2
      | false =>
        simp only [c1, c2, Bool.not_false, Bool.and_self, if_true] at ih ⊢
        refine ih ?_ ?_ ?_ ?_
        · rw [List.map_append]
          refine List.nodup_append.mpr ⟨h1, by simp, fun a ha b hb => ?_⟩
          simp only [List.map_cons, List.map_nil, List.mem_singleton] at hb
          rw [hb]
          rintro rfl
          rw [inS_iff.mpr ha] at c1
          cases c1
        · intro q hq
          rcases List.mem_append.mp hq with hq | hq
          · exact h2 q hq
          · simp only [List.mem_singleton] at hq
            rw [hq]
            exact c2
        · intro q hq
          rcases List.mem_append.mp hq with hq | hq
          · exact h3 q hq
          · simp only [List.mem_singleton] at hq
            rw [hq]
            simp
        · intro z hz
          rw [inS_app]
          rcases List.mem_append.mp hz with hz | hz
          · rcases h4 z hz with y | y
            · exact .inl (by rw [y]; rfl)
            · exact .inr y
          · simp only [List.mem_singleton] at hz
            refine .inl ?_
            simp [hz]
theorem init_ok {told : List Pm} (hc : ∀ p ∈ told, can3 p) (he : ∀ p ∈ told, withinB p go = false) : G go told told.length (init told) := by
  obtain ⟨h1, h2, h3, h4⟩ := seenGo_ok told [] [] (by simp) (by simp) (by simp) (by simp)
  simp only [List.length_nil, List.nil_append] at h1 h2 h3 h4
  refine ⟨by simp [init], hc, he, h1, h2, h3, Nat.le_refl _, fun i hi => ?_, fun i hi hl => absurd hl (Nat.not_lt.mpr hi), fun i hi => ?_, fun q hq => .inl (List.mem_map_of_mem hq), h4, ?_, fun i hi => ?_, List.take_length⟩
  · simp [init, hi]
  · rcases hi with hi | hi
    · obtain ⟨q, hq, rfl⟩ := List.mem_map.mp hi
      exact (List.getElem?_eq_some_iff.mp (h3 q hq)).1
    · cases hi
  · show told.length - told.length < (seenGo 0 told []).length ∨ _
    rw [Nat.sub_self]
    cases e : seenGo 0 told [] with
    | nil =>
      refine .inr ⟨e, ?_⟩
      show (seenGo 0 told []).map (·.2) = []
      rw [e]
      rfl
    | cons a b => exact .inl (by simp)
  · rcases hi with hi | hi
    · obtain ⟨q, hq, rfl⟩ := List.mem_map.mp hi
      show inS (seenGo 0 told []) (gp told q.2) = true
      rw [gp_get (h3 q hq)]
      exact inS_iff.mpr (List.mem_map_of_mem hq)
    · cases hi
theorem init_cl {told : List Pm} : Cl (init told) := fun i hi => nomatch hi
/-- no steps: a row in which all told ones hold -/
theorem row_of {told : List Pm} (hc : ∀ p ∈ told, can3 p) {s : S} (g : G go told told.length s) (c : Cl s) (q : s.queue = []) (k : ∀ i, i < told.length → i < s.made.length ∧ gp s.made i = gp told i) : ∃ v : Int → Bool, ∀ p ∈ told, hold v p := by
  have um : ∀ p ∈ s.seen.map (·.1), p ∈ s.made := fun p hp => by
    obtain ⟨z, hz, rfl⟩ := List.mem_map.mp hp
    exact List.mem_of_getElem? (g.at_ z hz)
  obtain ⟨v, hv⟩ := some_row (s.seen.map (·.1)) (fun z => by
      have y := g.emp _ (um _ z)
      cases y) (fun p hp r hr x cb => by
      obtain ⟨a, ha, rfl⟩ := List.mem_map.mp hp
      obtain ⟨b, hb, rfl⟩ := List.mem_map.mp hr
      have da := (g.cov a ha).resolve_left (by rw [q]; simp)
      have db := (g.cov b hb).resolve_left (by rw [q]; simp)
      have ea := gp_get (g.at_ a ha)
      have eb := gp_get (g.at_ b hb)
      have := c _ da _ db x (by rw [ea, eb]; exact cb)
      rw [ea, eb] at this
      rcases this with z | z
      · exact .inl (inS_iff.mp z)
      · exact .inr z) (fun p hp x hx => by
        have := g.can p (um p hp)
        rcases hx with hx | hx
        · exact (this.1.2 x hx).1
        · exact (this.2.2 x hx).1) 3
  refine ⟨v, fun p hp => ?_⟩
  obtain ⟨i, hi, e⟩ := List.getElem_of_mem hp
  obtain ⟨k1, k2⟩ := k i hi
  have ep : gp s.made i = p := by
    rw [k2, ← e]
    exact gp_get (by simp [hi])
  rcases g.all p (by rw [← ep]; exact gp_mem k1) with z | z
  · refine hv p (inS_iff.mp z) fun x hx => ?_
    have := hc p hp
    rcases hx with hx | hx
    · exact (this.1.2 x hx).2
    · exact (this.2.2 x hx).2
  · exact hold_both z
end
end K07

set_option Elab.async false
set_option linter.all false
set_option maxRecDepth 100000
set_option maxHeartbeats 4000000
namespace K07
open PySem PySem.Spec PyProof.Rows L2 Say
/-! the steps of use -/
def orgs (o : List (Option Stp)) (i : Nat) : Stp := ((o[i]?).join).getD (0, 0, 0)
/-- from the end: what is needed -/
def needs (o : List (Option Stp)) (n : Nat) : Nat → List Nat → List Nat
  | 0, nd => nd
  | k + 1, nd => needs o n k (if (n + k) ∈ nd then nd ++ [(orgs o (n + k)).1, (orgs o (n + k)).2.1] else nd)
def need (o : List (Option Stp)) (n : Nat) : List Nat := needs o n (o.length - n) [o.length - 1]
/-- the kept ones among the first k behind the told ones -/
def kept (nd : List Nat) (n k : Nat) : List Nat := ((List.range k).map (n + ·)).filter fun a => decide (a ∈ nd)
def rk (nd : List Nat) (n a : Nat) : Nat := if a < n then a else n + (kept nd n (a - n)).length
def conv (o : List (Option Stp)) (nd : List Nat) (n a : Nat) : Stp := (rk nd n (orgs o a).1, rk nd n (orgs o a).2.1, (orgs o a).2.2)
def useS (o : List (Option Stp)) (n : Nat) : List Stp := (kept (need o n) n (o.length - n)).map (conv o (need o n) n)
theorem kept_succ {nd : List Nat} {n k : Nat} : kept nd n (k + 1) = kept nd n k ++ (if (n + k) ∈ nd then [n + k] else []) := by
  unfold kept
  rw [List.range_succ, List.map_append, List.filter_append]
  congr 1
  by_cases h : (n + k) ∈ nd <;> simp [h]
theorem mem_kept {nd : List Nat} {n k a : Nat} : a ∈ kept nd n k ↔ n ≤ a ∧ a < n + k ∧ a ∈ nd := by
  simp only [kept, List.mem_filter, List.mem_map, List.mem_range, decide_eq_true_eq]
  constructor
  · rintro ⟨⟨t, h, rfl⟩, m⟩
    exact ⟨by omega, by omega, m⟩
  · rintro ⟨h1, h2, m⟩
    exact ⟨⟨a - n, by omega, by omega⟩, m⟩
theorem kept_len {nd : List Nat} {n : Nat} : ∀ {k : Nat}, (kept nd n k).length ≤ k
  | 0 => by simp [kept]
  | k + 1 => by
    rw [kept_succ, List.length_append]
    have := kept_len (nd := nd) (n := n) (k := k)
    split <;> simp <;> omega
/-- what needs says -/
theorem needs_ok (o : List (Option Stp)) (n : Nat) (lt : ∀ i, n ≤ i → i < o.length → (orgs o i).1 < i ∧ (orgs o i).2.1 < i) :
    ∀ (k : Nat) (nd : List Nat), n + k ≤ o.length → (∀ a ∈ nd, a < o.length) →
    (∀ a, n + k ≤ a → a < o.length → a ∈ nd → (orgs o a).1 ∈ nd ∧ (orgs o a).2.1 ∈ nd) →
    (∀ a ∈ nd, a + 1 = o.length ∨ ∃ b ∈ nd, n + k ≤ b ∧ b < o.length ∧ (a = (orgs o b).1 ∨ a = (orgs o b).2.1)) →
    let f := needs o n k nd
    (∀ a ∈ nd, a ∈ f) ∧ (∀ a ∈ f, a < o.length) ∧ (∀ a, n ≤ a → a < o.length → a ∈ f → (orgs o a).1 ∈ f ∧ (orgs o a).2.1 ∈ f) ∧
    (∀ a ∈ f, a + 1 = o.length ∨ ∃ b ∈ f, n ≤ b ∧ b < o.length ∧ (a = (orgs o b).1 ∨ a = (orgs o b).2.1)) ∧ f.length ≤ nd.length + 2 * k
  | 0, nd, _, h1, h2, h3 => ⟨fun _ h => h, h1, h2, h3, Nat.le_refl _⟩
  | k + 1, nd, hk, h1, h2, h3 => by
    have l := lt (n + k) (by omega) (by omega)
    by_cases m : (n + k) ∈ nd
    · have e : needs o n (k + 1) nd = needs o n k (nd ++ [(orgs o (n + k)).1, (orgs o (n + k)).2.1]) := by
        show needs o n k (if _ then _ else _) = _
        rw [if_pos m]
      have ih := needs_ok o n lt k (nd ++ [(orgs o (n + k)).1, (orgs o (n + k)).2.1]) (by omega) (fun a ha => by
          rcases List.mem_append.mp ha with ha | ha
          · exact h1 a ha
          · simp only [List.mem_cons, List.not_mem_nil, or_false] at ha
            rcases ha with rfl | rfl <;> omega)
        (fun a h4 h5 ha => by
          by_cases ea : a = n + k
          · rw [ea]
            exact ⟨by simp, by simp⟩
          · have ha2 : a ∈ nd := by
              rcases List.mem_append.mp ha with ha | ha
              · exact ha
              · simp only [List.mem_cons, List.not_mem_nil, or_false] at ha
                omega
            obtain ⟨z1, z2⟩ := h2 a (by omega) h5 ha2
            exact ⟨List.mem_append_left _ z1, List.mem_append_left _ z2⟩)
        (fun a ha => by
          rcases List.mem_append.mp ha with ha | ha
          · rcases h3 a ha with z | ⟨b, z1, z2, z3, z4⟩
            · exact .inl z
            · exact .inr ⟨b, List.mem_append_left _ z1, by omega, z3, z4⟩
          · simp only [List.mem_cons, List.not_mem_nil, or_false] at ha
            exact .inr ⟨n + k, List.mem_append_left _ m, by omega, by omega, ha⟩)
      intro f
      have ef : f = needs o n k (nd ++ [(orgs o (n + k)).1, (orgs o (n + k)).2.1]) := e
      rw [ef]
      obtain ⟨a1, a2, a3, a4, a5⟩ := ih
      refine ⟨fun a ha => a1 a (List.mem_append_left _ ha), a2, a3, a4, ?_⟩
      rw [List.length_append] at a5
      simp only [List.length_cons, List.length_nil] at a5
      omega
    · have e : needs o n (k + 1) nd = needs o n k nd := by
        show needs o n k (if _ then _ else _) = _
        rw [if_neg m]
      have ih := needs_ok o n lt k nd (by omega) h1
        (fun a h4 h5 ha => by
          by_cases ea : a = n + k
          · exact absurd (ea ▸ ha) m
          · exact h2 a (by omega) h5 ha)
        (fun a ha => by
          rcases h3 a ha with z | ⟨b, z1, z2, z3, z4⟩
          · exact .inl z
          · exact .inr ⟨b, z1, by omega, z3, z4⟩)
      intro f
      have ef : f = needs o n k nd := e
      rw [ef]
      obtain ⟨a1, a2, a3, a4, a5⟩ := ih
      exact ⟨a1, a2, a3, a4, by omega⟩
/-- a walk along steps -/
def stepOf (fs : List Pm) (t : Stp) : Option (List Pm) :=
  if t.1 < fs.length ∧ t.2.1 < fs.length ∧ canB (gp fs t.1) (gp fs t.2.1) t.2.2 = true then some (fs ++ [stepP (gp fs t.1) (gp fs t.2.1) t.2.2]) else none
def walk : List Stp → List Pm → Option (List Pm)
  | [], fs => some fs
  | t :: r, fs => match stepOf fs t with
    | some gs => walk r gs
    | none => none
theorem walk_app : ∀ (a b : List Stp) (fs : List Pm), walk (a ++ b) fs = (walk a fs).bind (walk b)
  | [], b, fs => rfl
  | t :: r, b, fs => by
    show (match stepOf fs t with | some gs => walk (r ++ b) gs | none => none) = Option.bind (match stepOf fs t with | some gs => walk r gs | none => none) (walk b)
    cases stepOf fs t with
    | none => rfl
    | some gs => exact walk_app r b gs
theorem walk_hold {v : Int → Bool} : ∀ (ts : List Stp) (fs gs : List Pm), (∀ p ∈ fs, hold v p) → walk ts fs = some gs → ∀ p ∈ gs, hold v p
  | [], fs, gs, h, e => by
    cases e
    exact h
  | t :: r, fs, gs, h, e => by
    have e' : (match stepOf fs t with | some gs => walk r gs | none => none) = some gs := e
    cases q : stepOf fs t with
    | none =>
      rw [q] at e'
      cases e'
    | some us =>
      rw [q] at e'
      refine walk_hold r us gs ?_ e'
      unfold stepOf at q
      split at q
      · rename_i c
        cases q
        intro p hp
        rcases List.mem_append.mp hp with hp | hp
        · exact h p hp
        · simp only [List.mem_singleton] at hp
          rw [hp]
          exact hold_step (h _ (gp_mem c.1)) (h _ (gp_mem c.2.1))
      · cases q
/-- the law's own look at use: from the end -/
def useGo (n : Nat) (ts : List Stp) : Nat → List Nat → Bool
  | 0, _ => true
  | k + 1, nd => decide (n + k ∈ nd) && useGo n ts k (nd ++ [(ts.getD k (0, 0, 0)).1, (ts.getD k (0, 0, 0)).2.1])
theorem useGo_ok (n : Nat) (ts : List Stp) : ∀ (k : Nat) (nd : List Nat), (∀ j, j < k → n + j ∈ nd ∨ ∃ i, j < i ∧ i < k ∧ ((ts.getD i (0, 0, 0)).1 = n + j ∨ (ts.getD i (0, 0, 0)).2.1 = n + j)) → useGo n ts k nd = true
  | 0, _, _ => rfl
  | k + 1, nd, h => by
    have h0 : n + k ∈ nd := by
      rcases h k (by omega) with z | ⟨i, h1, h2, _⟩
      · exact z
      · omega
    show (decide (n + k ∈ nd) && useGo n ts k _) = true
    rw [decide_eq_true h0, useGo_ok n ts k]
    · rfl
    · intro j hj
      rcases h j (by omega) with z | ⟨i, h1, h2, h3⟩
      · exact .inl (List.mem_append_left _ z)
      · by_cases c : i = k
        · subst c
          refine .inl (List.mem_append_right _ ?_)
          rcases h3 with z | z
          · rw [← z]
            exact List.mem_cons_self
          · rw [← z]
            exact List.mem_cons_of_mem _ List.mem_cons_self
        · exact .inr ⟨i, h1, by omega, h3⟩
section
variable {go : Pm} {T : List Pm} {n : Nat} {s : S} (w : Won go T n s)
include w
theorem won_org : ∀ i, n ≤ i → i < s.made.length → (orgs s.orig i).1 < i ∧ (orgs s.orig i).2.1 < i ∧ canB (gp s.made (orgs s.orig i).1) (gp s.made (orgs s.orig i).2.1) (orgs s.orig i).2.2 = true ∧ gp s.made i = stepP (gp s.made (orgs s.orig i).1) (gp s.made (orgs s.orig i).2.1) (orgs s.orig i).2.2 := fun i h1 h2 => by
  obtain ⟨t, e, r⟩ := w.org i h1 h2
  have : orgs s.orig i = t := by
    unfold orgs
    rw [e]
    rfl
  rw [this]
  exact r
theorem won_need : let f := need s.orig n
    (s.made.length - 1 ∈ f) ∧ (∀ a ∈ f, a < s.made.length) ∧ (∀ a, n ≤ a → a < s.made.length → a ∈ f → (orgs s.orig a).1 ∈ f ∧ (orgs s.orig a).2.1 ∈ f) ∧
    (∀ a ∈ f, a + 1 = s.made.length ∨ ∃ b ∈ f, n ≤ b ∧ b < s.made.length ∧ (a = (orgs s.orig b).1 ∨ a = (orgs s.orig b).2.1)) ∧ f.length ≤ 60 := by
  have l := w.len
  have tl := w.told
  have tp := w.top
  have h := needs_ok s.orig n (fun i h1 h2 => ⟨(won_org w i h1 (by omega)).1, (won_org w i h1 (by omega)).2.1⟩) (s.orig.length - n) [s.orig.length - 1] (by omega)
    (fun a ha => by
      simp only [List.mem_singleton] at ha
      omega) (fun a h1 h2 _ => by omega) (fun a ha => by
      simp only [List.mem_singleton] at ha
      omega)
  obtain ⟨h1, h2, h3, h4, h5⟩ := h
  rw [l] at h1 h2 h3 h4 h5
  simp only [List.length_cons, List.length_nil] at h5
  show (s.made.length - 1 ∈ need s.orig n) ∧ _
  unfold need
  rw [l]
  exact ⟨h1 _ (by simp), h2, h3, h4, by omega⟩
theorem won_rk {a : Nat} (hn : ¬ a < n) (ha : a < s.made.length) (hm : a ∈ need s.orig n) {k : Nat} (hk : a < n + k) : (kept (need s.orig n) n k)[rk (need s.orig n) n a - n]? = some a := by
  have e : rk (need s.orig n) n a - n = (kept (need s.orig n) n (a - n)).length := by
    unfold rk
    rw [if_neg hn]
    omega
  rw [e]
  have go : ∀ j, a - n < j → (kept (need s.orig n) n j)[(kept (need s.orig n) n (a - n)).length]? = some a := by
    intro j
    induction j with
    | zero => intro h; omega
    | succ j ih =>
      intro h
      rw [kept_succ]
      by_cases c : a - n = j
      · have e2 : n + j = a := by omega
        rw [← c]
        have e3 : n + (a - n) = a := by omega
        rw [e3, if_pos hm]
        simp
      · have h2 := ih (by omega)
        rw [List.getElem?_append_left (List.getElem?_eq_some_iff.mp h2).1]
        exact h2
  exact go k (by omega)
/-- all of told, then the kept ones -/
def walked (s : S) (n k : Nat) : List Pm := s.made.take n ++ (kept (need s.orig n) n k).map (gp s.made)
theorem won_gp {a k : Nat} (ha : a < n + k) (hl : a < s.made.length) (hm : n ≤ a → a ∈ need s.orig n) : rk (need s.orig n) n a < (walked s n k).length ∧ gp (walked s n k) (rk (need s.orig n) n a) = gp s.made a := by
  have tl := w.told
  have lt : (s.made.take n).length = n := by
    rw [List.length_take]
    omega
  by_cases c : a < n
  · have e : rk (need s.orig n) n a = a := by
      unfold rk
      rw [if_pos c]
    rw [e]
    refine ⟨?_, ?_⟩
    · unfold walked
      rw [List.length_append, lt]
      omega
    · refine gp_get ?_
      unfold walked
      rw [List.getElem?_append_left (by omega), List.getElem?_take_of_lt c]
      exact gp_at hl
  · have h := won_rk w c hl (hm (by omega)) (k := k) (by omega)
    have rn : n ≤ rk (need s.orig n) n a := by
      unfold rk
      rw [if_neg c]
      omega
    have h2 := (List.getElem?_eq_some_iff.mp h).1
    refine ⟨?_, gp_get ?_⟩
    · unfold walked
      rw [List.length_append, lt, List.length_map]
      omega
    · unfold walked
      rw [List.getElem?_append_right (by omega), lt, List.getElem?_map, h]
      rfl
theorem won_walk : ∀ k, n + k ≤ s.made.length → walk ((kept (need s.orig n) n k).map (conv s.orig (need s.orig n) n)) (s.made.take n) = some (walked s n k) := by
  intro k
  induction k with
  | zero =>
    intro _
    simp [kept, walked, walk]
  | succ k ih =>
    intro hk
    have h := ih (by omega)
    unfold walked
    rw [kept_succ]
    by_cases m : (n + k) ∈ need s.orig n
    · rw [if_pos m, List.map_append, walk_app, h]
      show walk [conv s.orig (need s.orig n) n (n + k)] (walked s n k) = _
      obtain ⟨o1, o2, o3, o4⟩ := won_org w (n + k) (by omega) (by omega)
      obtain ⟨_, _, nn, _⟩ := won_need w
      obtain ⟨m1, m2⟩ := nn (n + k) (by omega) (by omega) m
      obtain ⟨a1, a2⟩ := won_gp w (k := k) (a := (orgs s.orig (n + k)).1) (by omega) (by omega) fun _ => m1
      obtain ⟨b1, b2⟩ := won_gp w (k := k) (a := (orgs s.orig (n + k)).2.1) (by omega) (by omega) fun _ => m2
      show (match stepOf (walked s n k) (conv s.orig (need s.orig n) n (n + k)) with | some gs => walk [] gs | none => none) = _
      have q : stepOf (walked s n k) (conv s.orig (need s.orig n) n (n + k)) = some (walked s n k ++ [gp s.made (n + k)]) := by
        unfold stepOf conv
        rw [a2, b2]
        rw [if_pos ⟨a1, b1, o3⟩, o4]
      rw [q]
      show some (walked s n k ++ [gp s.made (n + k)]) = _
      unfold walked
      simp
    · rw [if_neg m, List.append_nil]
      exact h
theorem won_use : useGo n (useS s.orig n) (useS s.orig n).length [n + (useS s.orig n).length - 1] = true := by
  refine useGo_ok _ _ _ _ fun j hj => ?_
  have l := w.len
  have tl := w.told
  have lu : (useS s.orig n).length = (kept (need s.orig n) n (s.made.length - n)).length := by
    unfold useS
    rw [List.length_map, l]
  rw [lu] at hj ⊢
  obtain ⟨n1, n2, n3, n4, _⟩ := won_need w
  by_cases c : j + 1 = (kept (need s.orig n) n (s.made.length - n)).length
  · refine .inl ?_
    simp only [List.mem_singleton]
    omega
  · obtain ⟨a, ha⟩ : ∃ a, (kept (need s.orig n) n (s.made.length - n))[j]? = some a := ⟨_, List.getElem?_eq_getElem hj⟩
    have am := mem_kept.mp (List.mem_of_getElem? ha)
    have srt : ∀ k, (kept (need s.orig n) n k).Pairwise (· < ·) := fun k => by
      unfold kept
      refine List.Pairwise.filter _ ?_
      refine List.pairwise_map.mpr ?_
      exact List.Pairwise.imp (fun h => by omega) List.pairwise_lt_range
    have inj : ∀ {i i' x y : Nat}, (kept (need s.orig n) n (s.made.length - n))[i]? = some x → (kept (need s.orig n) n (s.made.length - n))[i']? = some y → x < y → i < i' := by
      intro i i' x y hx hy hxy
      obtain ⟨q1, r1⟩ := List.getElem?_eq_some_iff.mp hx
      obtain ⟨q2, r2⟩ := List.getElem?_eq_some_iff.mp hy
      rcases Nat.lt_trichotomy i i' with z | z | z
      · exact z
      · subst z
        omega
      · have := List.pairwise_iff_getElem.mp (srt (s.made.length - n)) i' i q2 q1 z
        omega
    have ra : rk (need s.orig n) n a = n + j := by
      have h := won_rk w (a := a) (by omega) (by omega) am.2.2 (k := s.made.length - n) (by omega)
      have rn : n ≤ rk (need s.orig n) n a := by
        unfold rk
        rw [if_neg (by omega)]
        omega
      rcases Nat.lt_trichotomy (rk (need s.orig n) n a - n) j with z | z | z
      · obtain ⟨q1, r1⟩ := List.getElem?_eq_some_iff.mp h
        obtain ⟨q2, r2⟩ := List.getElem?_eq_some_iff.mp ha
        have := List.pairwise_iff_getElem.mp (srt (s.made.length - n)) _ _ q1 q2 z
        omega
      · omega
      · obtain ⟨q1, r1⟩ := List.getElem?_eq_some_iff.mp h
        obtain ⟨q2, r2⟩ := List.getElem?_eq_some_iff.mp ha
        have := List.pairwise_iff_getElem.mp (srt (s.made.length - n)) _ _ q2 q1 z
        omega
    have nl : a + 1 ≠ s.made.length := fun z => by
      have hl : (kept (need s.orig n) n (s.made.length - n))[(kept (need s.orig n) n (s.made.length - n)).length - 1]? = some ((kept (need s.orig n) n (s.made.length - n)).getD ((kept (need s.orig n) n (s.made.length - n)).length - 1) 0) := by
        rw [List.getD_eq_getElem?_getD, List.getElem?_eq_getElem (by omega)]
        rfl
      generalize hy : (kept (need s.orig n) n (s.made.length - n)).getD ((kept (need s.orig n) n (s.made.length - n)).length - 1) 0 = y at hl
      have ym := mem_kept.mp (List.mem_of_getElem? hl)
      obtain ⟨q1, r1⟩ := List.getElem?_eq_some_iff.mp ha
      obtain ⟨q2, r2⟩ := List.getElem?_eq_some_iff.mp hl
      have := List.pairwise_iff_getElem.mp (srt (s.made.length - n)) _ _ q1 q2 (by omega)
      omega
    rcases n4 a am.2.2 with z | ⟨b, b1, b2, b3, b4⟩
    · exact absurd z nl
    · have hb := won_rk w (a := b) (by omega) b3 b1 (k := s.made.length - n) (by omega)
      have o := won_org w b b2 b3
      have lt : a < b := by
        rcases b4 with z | z <;> omega
      refine .inr ⟨rk (need s.orig n) n b - n, inj ha hb lt, (List.getElem?_eq_some_iff.mp hb).1, ?_⟩
      have eg : (useS s.orig n).getD (rk (need s.orig n) n b - n) (0, 0, 0) = conv s.orig (need s.orig n) n b := by
        rw [List.getD_eq_getElem?_getD]
        unfold useS
        rw [l, List.getElem?_map, hb]
        rfl
      rw [eg]
      unfold conv
      rcases b4 with z | z
      · exact .inl (by rw [← z]; exact ra)
      · exact .inr (by rw [← z]; exact ra)
end
/-- what a search gives -/
def foundG (go : Pm) (told : List Pm) : Option (List Stp) :=
  if told.any (fun p => withinB p go) = true then some [] else (outer go (pot (init told)) (init told)).map fun s => useS s.orig told.length
abbrev found (told : List Pm) : Option (List Stp) := foundG E0 told
theorem no_go {go : Pm} {told : List Pm} (h : ¬ told.any (fun p => withinB p go) = true) : ∀ p ∈ told, withinB p go = false := fun p hp => by
  cases e : withinB p go with
  | false => rfl
  | true => exact absurd (List.any_eq_true.mpr ⟨p, hp, e⟩) h
structure Right (told : List Pm) (ts : List Stp) : Prop where
  few : ts.length ≤ 26
  no : ¬ ∃ v : Int → Bool, ∀ p ∈ told, hold v p
  come : ∃ fs, walk ts told = some fs ∧ E0 ∈ fs ∧ (ts ≠ [] → fs.getLast? = some E0)
  use : ts ≠ [] → useGo told.length ts ts.length [told.length + ts.length - 1] = true
theorem any0 {told : List Pm} : told.any (fun p => withinB p E0) = true ↔ E0 ∈ told := by
  rw [List.any_eq_true]
  constructor
  · rintro ⟨p, h1, h2⟩
    rw [within0.mp h2] at h1
    exact h1
  · exact fun h => ⟨_, h, within0.mpr rfl⟩
theorem found_some {told : List Pm} (hc : ∀ p ∈ told, can3 p) {ts : List Stp} (h : found told = some ts) : Right told ts := by
  unfold found foundG at h
  by_cases e0 : E0 ∈ told
  · rw [if_pos (any0.mpr e0)] at h
    cases h
    exact ⟨by simp, fun ⟨v, hv⟩ => not_hold0 (hv _ e0), ⟨told, rfl, e0, fun z => absurd rfl z⟩, fun z => absurd rfl z⟩
  · rw [if_neg (fun z => e0 (any0.mp z))] at h
    rcases outer_ok _ _ (init_ok hc (no_go fun z => e0 (any0.mp z))) init_cl (Nat.le_refl _) with ⟨s, e, w⟩ | ⟨e, _⟩
    · rw [e] at h
      cases h
      have l := w.len
      have tl := w.told
      have wk := won_walk w (s.made.length - told.length) (by omega)
      rw [w.tk] at wk
      have eu : (useS s.orig told.length) = (kept (need s.orig told.length) told.length (s.made.length - told.length)).map (conv s.orig (need s.orig told.length) told.length) := by
        unfold useS
        rw [l]
      rw [← eu] at wk
      have lastK : (kept (need s.orig told.length) told.length (s.made.length - told.length)).getLast? = some (s.made.length - 1) := by
        obtain ⟨n1, _⟩ := won_need w
        have e2 : s.made.length - told.length = (s.made.length - told.length - 1) + 1 := by omega
        rw [e2, kept_succ]
        have e3 : told.length + (s.made.length - told.length - 1) = s.made.length - 1 := by omega
        rw [e3, if_pos n1]
        simp
      have lastW : (walked s told.length (s.made.length - told.length)).getLast? = some E0 := by
        unfold walked
        have e4 : ((kept (need s.orig told.length) told.length (s.made.length - told.length)).map (gp s.made)).getLast? = some E0 := by
          rw [List.getLast?_map, lastK]
          show some (gp s.made (s.made.length - 1)) = _
          rw [within0.mp w.last]
        rw [List.getLast?_append, e4]
        rfl
      refine ⟨?_, ?_, ⟨_, wk, List.mem_of_getLast? lastW, fun _ => lastW⟩, fun _ => won_use w⟩
      · show (useS s.orig told.length).length ≤ 26
        rw [eu, List.length_map]
        have := kept_len (nd := need s.orig told.length) (n := told.length) (k := s.made.length - told.length)
        have := w.top
        omega
      · rintro ⟨v, hv⟩
        exact not_hold0 (walk_hold _ _ _ hv wk _ (List.mem_of_getLast? lastW))
    · rw [e] at h
      cases h
theorem found_none {told : List Pm} (hc : ∀ p ∈ told, can3 p) (h : found told = none) : ∃ v : Int → Bool, ∀ p ∈ told, hold v p := by
  unfold found foundG at h
  by_cases e0 : E0 ∈ told
  · rw [if_pos (any0.mpr e0)] at h
    cases h
  · rcases outer_ok _ _ (init_ok hc (no_go fun z => e0 (any0.mp z))) init_cl (Nat.le_refl _) with ⟨s, e, w⟩ | ⟨e, s, g, c, q, k⟩
    · rw [if_neg (fun z => e0 (any0.mp z)), e] at h
      cases h
    · exact row_of hc g c q k
end K07

set_option Elab.async false
set_option linter.all false
set_option maxRecDepth 100000
set_option maxHeartbeats 8000000
namespace K07
open PySem PySem.Spec PyProof.Rows L2 Say
theorem can_len {p : Pm} (h : can3 p) : p.1.length ≤ 3 ∧ p.2.length ≤ 3 := by
  have go : ∀ xs ∈ all8, xs.length ≤ 3 := by decide
  exact ⟨go _ (in8 h.1.1 h.1.2), go _ (in8 h.2.1 h.2.2)⟩
def spHas (K : PySem.W.Frag) : Sp := fun vs H Q _ => ∃ v p, vs = [v] ∧ Dp K H v (pmD p) ∧ can3 p ∧ ∀ H', Same H H' → Q (.bl (bothB p)) H'
def spWithin (K : PySem.W.Frag) : Sp := fun vs H Q _ => ∃ v u p q, vs = [v, u] ∧ Dp K H v (pmD p) ∧ Dp K H u (pmD q) ∧ can3 p ∧ ∀ H', Same H H' → Q (.bl (withinB p q)) H'
def spCan (K : PySem.W.Frag) : Sp := fun vs H Q _ => ∃ v u p q x, vs = [v, u, .int x] ∧ Dp K H v (pmD p) ∧ Dp K H u (pmD q) ∧ Q (.bl (canB p q x)) H
def spStepped (K : PySem.W.Frag) : Sp := fun vs H Q _ => ∃ v u p q x, vs = [v, u, .int x] ∧ Dp K H v (pmD p) ∧ Dp K H u (pmD q) ∧ can3 p ∧ can3 q ∧
  ∀ H' t, Same H H' → H t = none → Dp K H' (.ref t) (pmD (stepP p q x)) → Q (.ref t) H'
theorem in_tup {K : PySem.W.Frag} {H : Hp} {σ : L2.St} {i : Nat} {k : Int} {a b : Addr} {xs : List V} {x : Int} {j : Nat} {ns : List Int} {Q : VK} (e : σ[j]? = some (some (.int x))) (e2 : σ[i]? = some (some (.ref a))) (h : Sq K H a xs) (hv : atI xs k = some (.ref b)) (hb : Sq K H b (ns.map V.int)) (q : Q (.bl (decide (x ∈ ns))) H) :
    tOp (rIn K false) (tVar j) (tOp (rIxS2 K) (tVar i) (tC (.int k))) σ H Q := ⟨_, e, ixv e2 h hv (in_ints hb q)⟩
section
variable {P : Program} {w : World} {K : PySem.W.Frag} {mg : Str → Option Value} {base : Heap}
def NHas : List Str := ["premise", "place"]
theorem scHas : FnScope NHas ["premise"] (defScope (top 12)) := ⟨rfl, rfl, rfl, by decide +kernel, rfl, by decide +kernel, by decide +kernel⟩
theorem ok_has (T : Tx K mg) : Fd P w K mg base CX0 1 "has_both" ["premise"] (spHas K) := by
  obtain ⟨fd, F⟩ := T.F_has_both
  refine ⟨fd, ?_, F.bindsN fun _ _ _ _ _ _ us hl => match us, hl with | [_], _ => rfl, F.kp⟩
  refine F.ok scHas (fun vs H Q E h => ?_) (fun cdv A outer s H vs Q E hr h => ?_)
  · obtain ⟨v, p, rfl, _⟩ := h
    rfl
  · obtain ⟨v, p, rfl, hd, c3, k⟩ := h
    obtain ⟨t, a, b, rfl, ht, ha, hb⟩ := pm_open hd
    refine ⟨_, PSs.nox (pss_one (ps_ret (pe_callB (cr_any (by rfl)) (by rfl) T.b_any (by decide +kernel) (pa_cons
      (pe_lc (own := [("place", 1)]) (g := gName 1) (tt := tYes) rfl scHas.nd (pi_sq (pe_ix ix_sq (pv 0) pe_int (fun _ _ => rfl))) (blkOk_by (N := NHas) (sc := defScope (top 12)) (by decide +kernel)) (fun _ _ _ _ _ => pg_name (i := 1) scHas.nd rfl (Or.inl rfl)) (fun _ _ _ _ _ => pts_nil)
        (fun _ _ _ _ _ => pe_cmpR (inK K rfl) (pv 1) (pe_ix (ixK K rfl) (pv 0) pe_int (fun _ _ => rfl)) rfl)) pa_nil)))), ?_⟩
    refine ixv rfl (.inr ht) rfl ⟨a, rfl, lc_sq (fun i => (p.1.take i).map fun x => V.bl (decide (x ∈ p.2))) (.inr ha) rfl (fun D hD j y H3 hy pI => ?_) (fun D H3 hD pI => ?_)⟩
    · rw [List.getElem?_map] at hy
      obtain ⟨x, hx, rfl⟩ := Option.map_eq_some_iff.mp hy
      refine ⟨rfl, in_tup rfl rfl (same_sq pI.1 (.inr ht)) rfl (same_sq pI.1 (.inr hb)) ?_⟩
      exact lci_step pI hD (take_few (n := 0) (by have := (can_len c3).1; omega)) (out_step hx)
    · have ez : (p.1.take (p.1.map V.int).length).map (fun x => V.bl (decide (x ∈ p.2))) = (p.1.map fun x => decide (x ∈ p.2)).map V.bl := by
        rw [List.length_map, List.take_length, List.map_map]
        rfl
      rw [ez] at pI
      refine ⟨D, _, rfl, SqL.of pI.2, ?_⟩
      have e : (p.1.map fun x => decide (x ∈ p.2)).any id = bothB p := by
        rw [List.any_map]
        rfl
      rw [e]
      exact k _ pI.1
def NWithin : List Str := ["premise", "other", "side", "place"]
theorem scWithin : FnScope NWithin ["premise", "other"] (defScope (top 13)) := ⟨rfl, rfl, rfl, by decide +kernel, rfl, by decide +kernel, by decide +kernel⟩
theorem ok_within (T : Tx K mg) : Fd P w K mg base CX0 1 "is_within" ["premise", "other"] (spWithin K) := by
  obtain ⟨fd, F⟩ := T.F_is_within
  refine ⟨fd, ?_, F.bindsN fun _ _ _ _ _ _ us hl => match us, hl with | [_, _], _ => rfl, F.kp⟩
  refine F.ok scWithin (fun vs H Q E h => ?_) (fun cdv A outer s H vs Q E hr h => ?_)
  · obtain ⟨v, u, p, q, rfl, _⟩ := h
    rfl
  · obtain ⟨v, u, p, q, rfl, hd, hd2, c3, k⟩ := h
    obtain ⟨t, a, b, rfl, ht, ha, hb⟩ := pm_open hd
    obtain ⟨t2, a2, b2, rfl, ht2, ha2, hb2⟩ := pm_open hd2
    refine ⟨_, PSs.nox (pss_one (ps_ret (pe_callB (cr_all (by rfl)) (by rfl) T.b_all (by decide +kernel) (pa_cons
      (pe_lc2 (own := [("side", 2), ("place", 3)]) (vs1 := [3]) (g := gName 2) (g1 := gName 3) (tt := tYes) (tt1 := tYes) rfl scWithin.nd (pi_sq (pe_tup (pa_cons pe_int (pa_cons pe_int pa_nil)))) (blkOk_by (N := NWithin) (sc := defScope (top 13)) (by decide +kernel)) (by decide)
        (fun _ _ _ _ _ => pg_name (i := 2) scWithin.nd rfl (Or.inl rfl)) (fun _ _ _ _ _ => pts_nil)
        (fun _ _ _ _ _ => pi_sqK K rfl (pe_ix (ixK K rfl) (pv 0) (pv 2) (fun _ _ => rfl)))
        (fun _ _ _ _ _ => pg_name (i := 3) scWithin.nd rfl (Or.inl rfl)) (fun _ _ _ _ _ => pts_nil)
        (fun _ _ _ _ _ => pe_cmpR (inK K rfl) (pv 3) (pe_ix (ixK K rfl) (pv 1) (pv 2) (fun _ _ => rfl)) rfl)) pa_nil)))), ?_⟩
    refine ⟨(by show 2 ≤ sizeLine; decide), fun z hz => ?_⟩
    refine ⟨z, rfl, lc2_sq (fun i => if i = 0 then [] else if i = 1 then p.1.map fun x => V.bl (decide (x ∈ q.1)) else (p.1.map fun x => V.bl (decide (x ∈ q.1))) ++ p.2.map fun x => V.bl (decide (x ∈ q.2))) (.inr (SqT.of upd_same)) rfl (fun D hD j y H3 hy pI => ?_) (fun D H3 hD pI => ?_)⟩
    · have s1 : Same H H3 := same_trans (same_new hz) pI.1
      have ht' := same_sq s1 (.inr ht)
      have ht2' := same_sq s1 (.inr ht2)
      rcases j with _ | _ | j
      · cases hy
        refine ⟨rfl, ⟨_, rfl, _, rfl, ix_at ht' rfl ⟨a, rfl, lcin_sq (fun i => (p.1.take i).map fun x => V.bl (decide (x ∈ q.1))) (.inr (grow_sqT (grow_same (same_new hz)) ha)) pI (fun i y H4 hy4 p4 => ?_) (fun H4 p4 => ?_)⟩⟩⟩
        · rw [List.getElem?_map] at hy4
          obtain ⟨x, hx, rfl⟩ := Option.map_eq_some_iff.mp hy4
          have s4 := same_trans (same_new hz) p4.1
          refine ⟨rfl, ⟨_, rfl, _, rfl, _, rfl, ix_at (same_sq s4 (.inr ht2)) rfl (in_ints (same_sq s4 (.inr ha2)) ?_)⟩⟩
          exact lci_step p4 hD (take_few (n := 0) (by have := (can_len c3).1; omega)) (out_step hx)
        · rw [List.length_map, List.take_length] at p4
          exact p4
      · cases hy
        refine ⟨rfl, ⟨_, rfl, _, rfl, ix_at ht' rfl ⟨b, rfl, lcin_sq (fun i => (p.1.map fun x => V.bl (decide (x ∈ q.1))) ++ (p.2.take i).map fun x => V.bl (decide (x ∈ q.2))) (.inr (grow_sqT (grow_same (same_new hz)) hb)) (by simpa using pI) (fun i y H4 hy4 p4 => ?_) (fun H4 p4 => ?_)⟩⟩⟩
        · rw [List.getElem?_map] at hy4
          obtain ⟨x, hx, rfl⟩ := Option.map_eq_some_iff.mp hy4
          have s4 := same_trans (same_new hz) p4.1
          refine ⟨rfl, ⟨_, rfl, _, rfl, _, rfl, ix_at (same_sq s4 (.inr ht2)) rfl (in_ints (same_sq s4 (.inr hb2)) ?_)⟩⟩
          refine lci_step p4 hD ?_ ?_
          · have h1 := (can_len c3).1
            have h2 := (can_len c3).2
            have h3 : (p.2.take i).length ≤ p.2.length := by
              rw [List.length_take]
              omega
            have h4 : 64 ≤ sizeLine := by decide
            rw [List.length_append, List.length_map, List.length_map]
            omega
          · show _ ++ (p.2.take (i + 1)).map _ = _
            rw [out_step (f := fun x => V.bl (decide (x ∈ q.2))) hx, List.append_assoc]
        · rw [List.length_map, List.take_length] at p4
          exact p4
      · cases hy
    · have ez : (p.1.map fun x => V.bl (decide (x ∈ q.1))) ++ (p.2.map fun x => V.bl (decide (x ∈ q.2))) = ((p.1.map fun x => decide (x ∈ q.1)) ++ p.2.map fun x => decide (x ∈ q.2)).map V.bl := by
        rw [List.map_append, List.map_map, List.map_map]
        rfl
      have pI' : LcI (upd H z (.tup [.int 0, .int 1])) D ((p.1.map fun x => V.bl (decide (x ∈ q.1))) ++ (p.2.map fun x => V.bl (decide (x ∈ q.2)))) H3 := pI
      rw [ez] at pI'
      replace pI := pI'
      refine ⟨D, _, rfl, SqL.of pI.2, ?_⟩
      have e : ((p.1.map fun x => decide (x ∈ q.1)) ++ p.2.map fun x => decide (x ∈ q.2)).all id = withinB p q := by
        rw [List.all_append, List.all_map, List.all_map]
        rfl
      rw [e]
      exact k _ (same_trans (same_new hz) pI.1)
def NCan : List Str := ["one", "other", "place"]
theorem scCan : FnScope NCan ["one", "other", "place"] (defScope (top 14)) := ⟨rfl, rfl, rfl, by decide +kernel, rfl, by decide +kernel, by decide +kernel⟩
theorem ok_can (T : Tx K mg) : Fd P w K mg base CX0 1 "can_step" ["one", "other", "place"] (spCan K) := by
  obtain ⟨fd, F⟩ := T.F_can_step
  refine ⟨fd, ?_, F.bindsN fun _ _ _ _ _ _ us hl => match us, hl with | [_, _, _], _ => rfl, F.kp⟩
  refine F.ok scCan (fun vs H Q E h => ?_) (fun cdv A outer s H vs Q E hr h => ?_)
  · obtain ⟨v, u, p, q, x, rfl, _⟩ := h
    rfl
  · obtain ⟨v, u, p, q, x, rfl, hd, hd2, k⟩ := h
    obtain ⟨t, a, b, rfl, ht, ha, hb⟩ := pm_open hd
    obtain ⟨t2, a2, b2, rfl, ht2, ha2, hb2⟩ := pm_open hd2
    refine ⟨_, PSs.nox (pss_one (ps_ret (pe_and (pe_cmpR op_in_seq (pv 2) (pe_ix ix_sq (pv 0) pe_int (fun _ _ => rfl)) rfl) (pe_one (pe_cmpR op_in_seq (pv 2) (pe_ix ix_sq (pv 1) pe_int (fun _ _ => rfl)) rfl))))), ?_⟩
    refine in_tup rfl rfl (.inr ht) rfl (.inr hb) ⟨_, rfl, ?_⟩
    refine ite2 (fun c => ?_) (fun c => ?_)
    · refine in_tup rfl rfl (.inr ht2) rfl (.inr ha2) ?_
      have e : canB p q x = decide (x ∈ q.1) := by
        unfold canB
        rw [c]
        rfl
      rw [e] at k
      exact k
    · have e : canB p q x = false := by
        unfold canB
        rw [Bool.eq_false_iff.mpr c]
        rfl
      rw [e] at k
      exact k
def NStepped : List Str := ["one", "other", "place", "left", "right", "each"]
theorem scStepped : FnScope NStepped ["one", "other", "place"] (defScope (top 15)) := ⟨rfl, rfl, rfl, by decide +kernel, rfl, by decide +kernel, by decide +kernel⟩
theorem but_step {x y : Int} {xs : List Int} {i : Nat} (h : xs[i]? = some y) : but x (xs.take (i + 1)) = but x (xs.take i) ++ (if decide (y ≠ x) = true then [y] else []) := by
  rw [List.take_succ, h]
  unfold but
  rw [List.filter_append]
  congr 1
  by_cases c : y = x <;> simp [c]
theorem but_len {x : Int} {xs : List Int} : (but x xs).length ≤ xs.length := List.length_filter_le _ _
theorem ne_place {a b : Int} : (!decide (V.int a = V.int b)) = decide (a ≠ b) := by
  by_cases h : a = b
  · subst h
    simp
  · simp [h]
theorem ok_stepped (T : Tx K mg) : Fd P w K mg base CX0 2 "stepped" ["one", "other", "place"] (spStepped K) := by
  obtain ⟨fd, F⟩ := T.F_stepped
  refine ⟨fd, ?_, F.bindsN fun _ _ _ _ _ _ us hl => match us, hl with | [_, _, _], _ => rfl, F.kp⟩
  refine F.ok scStepped (fun vs H Q E h => ?_) (fun cdv A outer s H vs Q E hr h => ?_)
  · obtain ⟨v, u, p, q, x, rfl, _⟩ := h
    rfl
  · obtain ⟨v, u, p, q, x, rfl, hd, hd2, c3, c4, k⟩ := h
    obtain ⟨t, a, b, rfl, ht, ha, hb⟩ := pm_open hd
    obtain ⟨t2, a2, b2, rfl, ht2, ha2, hb2⟩ := pm_open hd2
    have l1 := can_len c3
    have l2 := can_len c4
    refine ⟨_, PSs.nox (pss_cons (ps_setLc (i := 3) (own := [("each", 5)]) (g := gName 5) rfl scStepped.nd rfl rfl (sw_true rfl rfl rfl (by decide +kernel)) (pi_sq (pe_ix ix_sq (pv 1) pe_int (fun _ _ => rfl))) (blkOk_by (N := NStepped) (sc := defScope (top 15)) (by decide +kernel)) (fun _ _ _ _ _ => pg_name (i := 5) scStepped.nd rfl (Or.inl rfl))
          (fun _ _ _ _ _ => pts_one (pt_cmpR op_ne (pv 5) (pv 2) (nomark _))) (fun _ _ _ _ _ => pv 5))
      (pss_cons (ps_setLc (i := 4) (own := [("each", 5)]) (g := gName 5) rfl scStepped.nd rfl rfl (sw_true rfl rfl rfl (by decide +kernel)) (pi_sq (pe_ix ix_sq (pv 0) pe_int (fun _ _ => rfl))) (blkOk_by (N := NStepped) (sc := defScope (top 15)) (by decide +kernel)) (fun _ _ _ _ _ => pg_name (i := 5) scStepped.nd rfl (Or.inl rfl))
          (fun _ _ _ _ _ => pts_one (pt_cmpR op_ne (pv 5) (pv 2) (nomark _))) (fun _ _ _ _ _ => pv 5))
      (pss_one (ps_ret (pe_tup (pa_cons (pe_fd (ok_lot T) (hr.mono (by decide)) rfl T.g_lot_of pass0 (pa_cons (pe_op op_cat (pe_callTy call_list_of (by rfl) T.b_list (by decide +kernel) (pa_cons (pe_ix ix_sq (pv 0) pe_int (fun _ _ => rfl)) pa_nil)) (pv 3)) pa_nil))
        (pa_cons (pe_fd (ok_lot T) (hr.mono (by decide)) rfl T.g_lot_of pass0 (pa_cons (pe_op op_cat (pv 4) (pe_callTy call_list_of (by rfl) T.b_list (by decide +kernel) (pa_cons (pe_ix ix_sq (pv 1) pe_int (fun _ _ => rfl)) pa_nil))) pa_nil)) pa_nil))))))), ?_⟩
    refine ixv rfl (.inr ht2) rfl ⟨a2, rfl, lc_sq (fun i => (but x (q.1.take i)).map V.int) (.inr ha2) rfl (fun D hD j y H3 hy pI => ?_) (fun D H1 hD p1 => ?_)⟩
    · rw [List.getElem?_map] at hy
      obtain ⟨z, hz, rfl⟩ := Option.map_eq_some_iff.mp hy
      refine ⟨rfl, _, rfl, _, rfl, rfl, _, rfl, ?_⟩
      rw [ne_place]
      have fewI : ((but x (q.1.take j)).map V.int).length < sizeLine := by
        have h1 : (but x (q.1.take j)).length ≤ (q.1.take j).length := but_len
        have h2 : (q.1.take j).length ≤ q.1.length := by
          rw [List.length_take]
          omega
        have h4 : 64 ≤ sizeLine := by decide
        rw [List.length_map]
        omega
      refine ite2 (fun c => ?_) (fun c => ?_)
      · refine ⟨_, rfl, lci_step pI hD fewI ?_⟩
        rw [but_step hz, if_pos c, List.map_append]
        rfl
      · rw [but_step hz, if_neg c, List.append_nil]
        exact pI
    · rw [List.length_map, List.take_length] at p1
      refine ixv rfl (same_sq p1.1 (.inr ht)) rfl ⟨b, rfl, lc_sq (fun i => (but x (p.2.take i)).map V.int) (same_sq p1.1 (.inr hb)) rfl (fun D hD j y H3 hy pI => ?_) (fun D2 H2 hD2 p2 => ?_)⟩
      · rw [List.getElem?_map] at hy
        obtain ⟨z, hz, rfl⟩ := Option.map_eq_some_iff.mp hy
        refine ⟨rfl, _, rfl, _, rfl, rfl, _, rfl, ?_⟩
        rw [ne_place]
        have fewI : ((but x (p.2.take j)).map V.int).length < sizeLine := by
          have h1 : (but x (p.2.take j)).length ≤ (p.2.take j).length := but_len
          have h2 : (p.2.take j).length ≤ p.2.length := by
            rw [List.length_take]
            omega
          have h4 : 64 ≤ sizeLine := by decide
          rw [List.length_map]
          omega
        refine ite2 (fun c => ?_) (fun c => ?_)
        · refine ⟨_, rfl, lci_step pI hD fewI ?_⟩
          rw [but_step hz, if_pos c, List.map_append]
          rfl
        · rw [but_step hz, if_neg c, List.append_nil]
          exact pI
      · rw [List.length_map, List.take_length] at p2
        have s2 := same_trans p1.1 p2.1
        have bl1 : (but x q.1).length ≤ q.1.length := but_len
        have bl2 : (but x p.2).length ≤ p.2.length := but_len
        have big : 64 ≤ sizeLine := by decide
        have hD1 := p2.1 _ _ p1.2
        refine ixv rfl (same_sq s2 (.inr ht)) rfl ⟨a, _, rfl, .inr (grow_sqT (grow_same s2) ha), fun l1 n1 => ?_⟩
        have k1 := same_new (o := .lst (p.1.map V.int)) n1
        refine ⟨_, rfl, l1, D, _, _, rfl, rfl, upd_same, k1 _ _ hD1, ?_, fun c1 m1 => ?_⟩
        · simp only [List.length_append, List.length_map]
          omega
        have k2 := same_new (o := .lst (p.1.map V.int ++ (but x q.1).map V.int)) m1
        rw [← List.map_append] at k2 ⊢
        refine ⟨c1, _, rfl, .inl (SqL.of upd_same), ?_, fun H3 t1 g1 e1 h1 => ?_⟩
        · simp only [List.length_append]
          omega
        have s3 := same_trans s2 (same_trans k1 (same_trans k2 g1))
        have hD2' := same_trans k1 (same_trans k2 g1) _ _ p2.2
        refine ⟨_, rfl, ixv rfl (same_sq s3 (.inr ht2)) rfl ⟨b2, _, rfl, .inr (grow_sqT (grow_same s3) hb2), fun l2 n2 => ?_⟩⟩
        have k3 := same_new (o := .lst (q.2.map V.int)) n2
        refine ⟨D2, l2, _, _, rfl, rfl, k3 _ _ hD2', upd_same, ?_, fun c2 m2 => ?_⟩
        · simp only [List.length_append, List.length_map]
          omega
        have k4 := same_new (o := .lst ((but x p.2).map V.int ++ q.2.map V.int)) m2
        rw [← List.map_append] at k4 ⊢
        refine ⟨c2, _, rfl, .inl (SqL.of upd_same), ?_, fun H4 t3 g4 e4 h4 => ?_⟩
        · simp only [List.length_append]
          omega
        have k5 := same_trans k3 (same_trans k4 g4)
        refine ⟨(by show 2 ≤ sizeLine; decide), fun r hr => k _ r (same_trans s3 (same_trans k5 (same_new hr))) ?_ (pm_make upd_same ?_ ?_)⟩
        · cases z : H r with
          | none => rfl
          | some o =>
            rw [same_trans s3 k5 r o z] at hr
            cases hr
        · exact same_trans k5 (same_new hr) _ _ h1
        · exact same_new hr _ _ h4
end
end K07

set_option Elab.async false
set_option linter.all false
set_option maxRecDepth 100000
set_option maxHeartbeats 8000000
namespace K07
open PySem PySem.Spec PyProof.Rows L2 Say
def stpD (t : Stp) : PyData := .tuple [.int t.1, .int t.2.1, .int t.2.2]
def natD (n : Nat) : PyData := .int n
theorem pm_firm (p : Pm) : firm (pmD p) = true := by
  have go : ∀ ns : List Int, firmAll (ns.map PyData.int) = true := fun ns => firmAll_map (fun _ => rfl) ns
  show (firmAll (p.1.map PyData.int) && (firmAll (p.2.map PyData.int) && true)) = true
  rw [go, go]
  rfl
theorem stp_firm (t : Stp) : firm (stpD t) = true := rfl
theorem nat_firm (n : Nat) : firm (natD n) = true := rfl
theorem pms_firm (m : List Pm) : firmAll (m.map pmD) = true := firmAll_map pm_firm m
theorem stps_firm (m : List Stp) : firmAll (m.map stpD) = true := firmAll_map stp_firm m
theorem nats_firm (m : List Nat) : firmAll (m.map natD) = true := firmAll_map nat_firm m
def spSW (K : PySem.W.Frag) : Sp := fun vs H Q _ => ∃ (lm ld : Addr) (m : List Pm) (done : List Nat) (a : Nat), vs = [.ref lm, .ref ld, .int a] ∧ LD K H lm (m.map pmD) ∧ LD K H ld (done.map natD) ∧ (∀ p ∈ m, can3 p) ∧ (∀ i ∈ done, i < m.length) ∧ a < m.length ∧ done.length ≤ 1000 ∧
  ∀ H' t, Same H H' → H t = none → LD K H' t ((stepsAt m done a).map stpD) → Q (.ref t) H'
theorem pair_len {m : List Pm} {o a : Nat} (h : can3 (gp m o)) : (pairSt m o a).length ≤ 3 := by
  unfold pairSt
  rw [List.length_map]
  exact Nat.le_trans (List.length_filter_le _ _) (can_len h).2
theorem steps_len {m : List Pm} {a : Nat} (hc : ∀ p ∈ m, can3 p) (ha : a < m.length) : ∀ {done : List Nat}, (∀ i ∈ done, i < m.length) → (stepsAt m done a).length ≤ 6 * done.length
  | [], _ => Nat.zero_le _
  | o :: r, h => by
    have h1 := pair_len (a := a) (hc _ (gp_mem (h o (by simp))))
    have h2 := pair_len (m := m) (o := a) (a := o) (hc _ (gp_mem ha))
    have h3 := steps_len hc ha (done := r) fun i hi => h i (by simp [hi])
    have e : stepsAt m (o :: r) a = (pairSt m o a ++ pairSt m a o) ++ stepsAt m r a := rfl
    rw [e]
    simp only [List.length_append, List.length_cons]
    omega
theorem steps_take {m : List Pm} {a o : Nat} {done : List Nat} {i : Nat} (h : done[i]? = some o) : stepsAt m (done.take (i + 1)) a = stepsAt m (done.take i) a ++ pairSt m o a ++ pairSt m a o := by
  rw [List.take_succ, h]
  unfold stepsAt
  rw [List.flatMap_append]
  simp
/-- what a pair gives, from the left -/
def pairI (m : List Pm) (o a : Nat) (xs : List Int) : List Stp := (xs.filter fun x => canB (gp m o) (gp m a) x).map fun x => (o, a, x)
theorem pairI_step {m : List Pm} {o a : Nat} {xs : List Int} {i : Nat} {x : Int} (h : xs[i]? = some x) : pairI m o a (xs.take (i + 1)) = pairI m o a (xs.take i) ++ (if canB (gp m o) (gp m a) x = true then [(o, a, x)] else []) := by
  rw [List.take_succ, h]
  unfold pairI
  rw [List.filter_append, List.map_append]
  congr 1
  by_cases c : canB (gp m o) (gp m a) x = true <;> simp [c]
theorem pairI_len {m : List Pm} {o a : Nat} {xs : List Int} : (pairI m o a xs).length ≤ xs.length := by
  unfold pairI
  rw [List.length_map]
  exact List.length_filter_le _ _
theorem three {K : PySem.W.Frag} {H : Hp} {t : Addr} {a b : Nat} {x : Int} (h : H t = some (.tup [.int a, .int b, .int x])) : Dp K H (.ref t) (stpD (a, b, x)) := .tup (SqT.of h) (.cons (.int _) (.cons (.int _) (.cons (.int _) .nil)))
theorem made_at {K : PySem.W.Frag} {H : Hp} {lm : Addr} {m : List Pm} {i : Nat} (h : LD K H lm (m.map pmD)) (hi : i < m.length) : ∃ vs v, SqL K H lm vs ∧ atI vs (i : Int) = some v ∧ Dp K H v (pmD (gp m i)) := by
  obtain ⟨vs, v, h1, h2, h3⟩ := ld_at (i := i) (d := pmD (gp m i)) h (by rw [List.getElem?_map, gp_at hi]; rfl)
  exact ⟨vs, v, h1, atI_nat h2, h3⟩
section
variable {P : Program} {w : World} {K : PySem.W.Frag} {mg : Str → Option Value} {base : Heap}
def NSW : List Str := ["made", "done", "at", "steps", "other", "place"]
theorem scSW : FnScope NSW ["made", "done", "at"] (defScope (top 18)) := ⟨rfl, rfl, rfl, by decide +kernel, rfl, by decide +kernel, by decide +kernel⟩
theorem ok_sw (T : Tx K mg) : Fd P w K mg base CX0 2 "_steps_with" ["made", "done", "at"] (spSW K) := by
  obtain ⟨fd, F⟩ := T.F__steps_with
  refine ⟨fd, ?_, F.bindsN fun _ _ _ _ _ _ us hl => match us, hl with | [_, _, _], _ => rfl, F.kp⟩
  refine F.ok scSW (fun vs H Q E h => ?_) (fun cdv A outer s H vs Q E hr h => ?_)
  · obtain ⟨lm, ld, m, done, a, rfl, _⟩ := h
    rfl
  · obtain ⟨lm, ld, m, done, a, rfl, hm, hdn, c3, dl, al, d1000, k⟩ := h
    refine ⟨_, PSs.nox (pss_cons (ps_set (i := 3) scSW.nd rfl (Or.inl rfl) (pe_lst pa_nil))
      (pss_cons (ps_for PassesOwn.never rfl (pi_sq (pv 1)) (pg_name (i := 4) scSW.nd rfl (Or.inr rfl))
        (pss_cons (ps_expr (pe_bm PySem.F.plainAttrs_list PySem.F.slot_list_extend PySem.F.type_list_extend mt_extend (pv 3) (pa_cons
            (pe_lc (own := [("place", 5)]) (g := gName 5) rfl scSW.nd (pi_sq (pe_ix ix_sq (pe_ix ix_sq (pv 0) (pv 4) (fun _ _ => rfl)) pe_int (fun _ _ => rfl))) (blkOk_by (N := NSW) (sc := defScope (top 18)) (by decide +kernel)) (fun _ _ _ _ _ => pg_name (i := 5) scSW.nd rfl (Or.inl rfl))
              (fun _ _ _ _ _ => pts_one (pt_val (pe_fd (ok_can T) (hr.mono (by decide)) rfl T.g_can_step pass0 (pa_cons (pe_ix (ixK K rfl) (pv 0) (pv 4) (fun _ _ => rfl)) (pa_cons (pe_ix (ixK K rfl) (pv 0) (pv 2) (fun _ _ => rfl)) (pa_cons (pv 5) pa_nil))))))
              (fun _ _ _ _ _ => pe_tup (pa_cons (pv 4) (pa_cons (pv 2) (pa_cons (pv 5) pa_nil))))) pa_nil)))
          (pss_one (ps_expr (pe_bm PySem.F.plainAttrs_list PySem.F.slot_list_extend PySem.F.type_list_extend mt_extend (pv 3) (pa_cons
            (pe_lc (own := [("place", 5)]) (g := gName 5) rfl scSW.nd (pi_sq (pe_ix ix_sq (pe_ix ix_sq (pv 0) (pv 2) (fun _ _ => rfl)) pe_int (fun _ _ => rfl))) (blkOk_by (N := NSW) (sc := defScope (top 18)) (by decide +kernel)) (fun _ _ _ _ _ => pg_name (i := 5) scSW.nd rfl (Or.inl rfl))
              (fun _ _ _ _ _ => pts_one (pt_val (pe_fd (ok_can T) (hr.mono (by decide)) rfl T.g_can_step pass0 (pa_cons (pe_ix (ixK K rfl) (pv 0) (pv 2) (fun _ _ => rfl)) (pa_cons (pe_ix (ixK K rfl) (pv 0) (pv 4) (fun _ _ => rfl)) (pa_cons (pv 5) pa_nil))))))
              (fun _ _ _ _ _ => pe_tup (pa_cons (pv 2) (pa_cons (pv 4) (pa_cons (pv 5) pa_nil))))) pa_nil))))))
        (pss_one (ps_ret (pv 3))))), ?_⟩
    refine ⟨(by show 0 ≤ sizeLine; decide), fun ls hls => ?_⟩
    obtain ⟨dv, hdv, hda⟩ := hdn
    have edv : dv = done.map fun n : Nat => V.int (n : Int) := by
      have := dp_ints (ns := done.map fun n : Nat => (n : Int)) (by rw [List.map_map]; exact hda)
      rw [this, List.map_map]
      rfl
    subst edv
    have s0 : Same H (upd H ls (.lst [])) := same_new hls
    refine ⟨_, rfl, ld, rfl, for_sqL (fun i σ H' => (∃ x4 x5, σ = [some (.ref lm), some (.ref ld), some (.int a), some (.ref ls), x4, x5]) ∧ Same H H' ∧ LD K H' ls ((stepsAt m (done.take i) a).map stpD)) (SqL.of (s0 _ _ hdv)) ⟨⟨_, _, rfl⟩, s0, LD.new⟩
      (fun i σ H' _ p => p.2.1.seq (SqL.of hdv)) (fun i x σ H' hx p => ?_) (fun σ H' p => ?_)⟩
    · obtain ⟨⟨x4, x5, rfl⟩, s1, hl⟩ := p
      rw [List.getElem?_map] at hx
      obtain ⟨o, ho, rfl⟩ := Option.map_eq_some_iff.mp hx
      have ol := dl o (List.mem_of_getElem? ho)
      have co := c3 _ (gp_mem ol)
      have ca := c3 _ (gp_mem al)
      have big : 100000 ≤ sizeLine := by decide
      obtain ⟨mv, u, m1, m2, m3⟩ := made_at (hm.same s1) ol
      obtain ⟨tu, au, bu, rfl, q1, q2, q3⟩ := pm_open m3
      obtain ⟨lv, hlv, _⟩ := id hl
      refine ⟨_, rfl, .inl ⟨rfl, _, SqL.of hlv⟩, ⟨_, rfl, _, rfl, ix_at (.inl m1) m2 (ix_at (.inr q1) rfl ⟨bu, rfl, lc_sqD (fun i => (pairI m o a ((gp m o).2.take i)).map stpD) (.inr q3) rfl (fun D hD j y H3 hy pI => ?_) (fun D H3 hD pI => ?_)⟩)⟩⟩
      · rw [List.getElem?_map] at hy
        obtain ⟨z, hz, rfl⟩ := Option.map_eq_some_iff.mp hy
        have s3 := same_trans s1 pI.1
        obtain ⟨mv1, u1, n1, n2, n3⟩ := made_at (hm.same s3) ol
        obtain ⟨mv2, u2, n4, n5, n6⟩ := made_at (hm.same s3) al
        refine ⟨rfl, ⟨_, rfl, _, rfl, ix_at (.inl n1) n2 ⟨_, rfl, _, rfl, ix_at (.inl n4) n5 ⟨_, rfl, u1, u2, gp m o, gp m a, z, rfl, n3, n6, _, rfl, ?_⟩⟩⟩⟩
        refine ite2 (fun c => ?_) (fun c => ?_)
        · refine ⟨_, rfl, _, rfl, _, rfl, (by show 3 ≤ sizeLine; decide), fun t ht => lcd_step (d := stpD (o, a, z)) pI (same_new ht) hD ?_ (stps_firm _) rfl (three upd_same) ?_⟩
          · rw [List.length_map]
            have h1 := pairI_len (m := m) (o := o) (a := a) (xs := (gp m o).2.take j)
            have h2 : ((gp m o).2.take j).length ≤ (gp m o).2.length := by
              rw [List.length_take]
              omega
            have h3 := (can_len co).2
            omega
          · rw [pairI_step hz, if_pos c, List.map_append]
            rfl
        · rw [pairI_step hz, if_neg c, List.append_nil]
          exact pI
      · rw [List.length_map, List.take_length] at pI
        have s3 := same_trans s1 pI.1
        have hl3 := hl.same pI.1
        have l1 : (stepsAt m (done.take i) a).length ≤ 6 * 1000 := by
          have h1 := steps_len c3 al (done := done.take i) fun j hj => dl j (List.mem_of_mem_take hj)
          have h2 : (done.take i).length ≤ done.length := by
            rw [List.length_take]
            omega
          omega
        have l2 : (pairI m o a (gp m o).2).length ≤ 3 := Nat.le_trans pairI_len (can_len co).2
        refine nil_go ?_
        refine ext_data hl3 pI.2 (by simp only [List.length_map]; omega) (stps_firm _) (stps_firm _) fun e he ge => ?_
        have s4 : Same H (upd H3 ls e) := same_upd s3 hls
        obtain ⟨mv, u, m1, m2, m3⟩ := made_at (hm.same s4) al
        obtain ⟨tu, au, bu, rfl, q1, q2, q3⟩ := pm_open m3
        obtain ⟨lv, hlv, _⟩ := id he
        refine ⟨_, rfl, .inl ⟨rfl, _, SqL.of hlv⟩, ⟨_, rfl, _, rfl, ix_at (.inl m1) m2 (ix_at (.inr q1) rfl ⟨bu, rfl, lc_sqD (fun i => (pairI m a o ((gp m a).2.take i)).map stpD) (.inr q3) rfl (fun D hD j y H5 hy pI => ?_) (fun D H5 hD pI => ?_)⟩)⟩⟩
        · rw [List.getElem?_map] at hy
          obtain ⟨z, hz, rfl⟩ := Option.map_eq_some_iff.mp hy
          have s5 := same_trans s4 pI.1
          obtain ⟨mv1, u1, n1, n2, n3⟩ := made_at (hm.same s5) al
          obtain ⟨mv2, u2, n4, n5, n6⟩ := made_at (hm.same s5) ol
          refine ⟨rfl, ⟨_, rfl, _, rfl, ix_at (.inl n1) n2 ⟨_, rfl, _, rfl, ix_at (.inl n4) n5 ⟨_, rfl, u1, u2, gp m a, gp m o, z, rfl, n3, n6, _, rfl, ?_⟩⟩⟩⟩
          refine ite2 (fun c => ?_) (fun c => ?_)
          · refine ⟨_, rfl, _, rfl, _, rfl, (by show 3 ≤ sizeLine; decide), fun t ht => lcd_step (d := stpD (a, o, z)) pI (same_new ht) hD ?_ (stps_firm _) rfl (three upd_same) ?_⟩
            · rw [List.length_map]
              have h1 := pairI_len (m := m) (o := a) (a := o) (xs := (gp m a).2.take j)
              have h2 : ((gp m a).2.take j).length ≤ (gp m a).2.length := by
                rw [List.length_take]
                omega
              have h3 := (can_len ca).2
              omega
            · rw [pairI_step hz, if_pos c, List.map_append]
              rfl
          · rw [pairI_step hz, if_neg c, List.append_nil]
            exact pI
        · rw [List.length_map, List.take_length] at pI
          have he5 := he.same pI.1
          have l3 : (pairI m a o (gp m a).2).length ≤ 3 := Nat.le_trans pairI_len (can_len ca).2
          refine nil_go ?_
          refine ext_data he5 pI.2 (by simp only [List.length_map, List.length_append]; omega) (firmAll_app (stps_firm _) (stps_firm _)) (stps_firm _) fun e2 he2 ge2 => ?_
          refine ⟨⟨_, _, rfl⟩, same_upd (same_trans s4 pI.1) hls, ?_⟩
          rw [steps_take ho, List.map_append, List.map_append]
          exact he2
    · obtain ⟨⟨x4, x5, rfl⟩, s1, hl⟩ := p
      rw [List.length_map, List.take_length] at hl
      exact ⟨_, rfl, k _ _ s1 hls hl⟩
end
end K07

set_option Elab.async false
set_option linter.all false
set_option maxRecDepth 100000
set_option maxHeartbeats 8000000
namespace K07
open PySem PySem.Spec PyProof.Rows L2 Say
def orgD : Option Stp → PyData
  | none => .none
  | some t => stpD t
theorem org_firm (t : Option Stp) : firm (orgD t) = true := by cases t <;> rfl
theorem orgs_firm (o : List (Option Stp)) : firmAll (o.map orgD) = true := firmAll_map org_firm o
/-- origins are right: the told ones have none, each other one two earlier ones -/
structure OrgOk (o : List (Option Stp)) (n : Nat) : Prop where
  lt : n < o.length
  le : o.length ≤ 1000
  org : ∀ i, n ≤ i → i < o.length → ∃ t : Stp, o[i]? = some (some t) ∧ t.1 < i ∧ t.2.1 < i
def spUse (K : PySem.W.Frag) : Sp := fun vs H Q _ => ∃ (lo : Addr) (o : List (Option Stp)) (n : Nat), vs = [.ref lo, .int n] ∧ LD K H lo (o.map orgD) ∧ OrgOk o n ∧
  ∀ H' t, Same H H' → H t = none → Dp K H' (.ref t) (.tuple ((useS o n).map stpD)) → Q (.ref t) H'
theorem org_at {o : List (Option Stp)} {n : Nat} (h : OrgOk o n) {i : Nat} (h1 : n ≤ i) (h2 : i < o.length) : o[i]? = some (some (orgs o i)) ∧ (orgs o i).1 < i ∧ (orgs o i).2.1 < i := by
  obtain ⟨t, e, r⟩ := h.org i h1 h2
  have : orgs o i = t := by
    unfold orgs
    rw [e]
    rfl
  rw [this]
  exact ⟨e, r⟩
theorem stp_open {K : PySem.W.Frag} {H : Hp} {v : V} {t : Stp} (h : Dp K H v (stpD t)) : ∃ a, v = .ref a ∧ SqT K H a [.int t.1, .int t.2.1, .int t.2.2] := by
  cases h with
  | tup hs ha =>
    cases ha with
    | cons h1 h2 =>
      cases h2 with
      | cons h2 h3 =>
        cases h3 with
        | cons h3 h4 =>
          cases h4
          cases h1
          cases h2
          cases h3
          exact ⟨_, rfl, hs⟩
theorem need_props {o : List (Option Stp)} {n : Nat} (h : OrgOk o n) : (∀ a, n ≤ a → a < o.length → a ∈ need o n → (orgs o a).1 ∈ need o n ∧ (orgs o a).2.1 ∈ need o n) ∧ (need o n).length ≤ 2001 := by
  have lt := h.lt
  have le := h.le
  have q := needs_ok o n (fun i h1 h2 => (org_at h h1 h2).2) (o.length - n) [o.length - 1] (by omega)
    (fun a ha => by
      simp only [List.mem_singleton] at ha
      omega) (fun a h1 h2 _ => by omega) (fun a ha => by
      simp only [List.mem_singleton] at ha
      omega)
  obtain ⟨_, _, h3, _, h5⟩ := q
  simp only [List.length_cons, List.length_nil] at h5
  exact ⟨h3, by unfold need; omega⟩
/-- where the places of the first ones are kept -/
def Placed (kvs : List (Key × V)) (nd : List Nat) (n k : Nat) : Prop := (∀ i, i < n + k → (i < n ∨ i ∈ nd) → valV kvs (.inl (i : Int)) = some (.int (rk nd n i : Nat))) ∧ kvs.length ≤ n + k
theorem Placed.put {kvs : List (Key × V)} {nd : List Nat} {n k : Nat} (h : Placed kvs nd n k) : Placed (putK kvs (.inl ((n + k : Nat) : Int)) (.int (rk nd n (n + k) : Nat))) nd n (k + 1) := by
  refine ⟨fun i hi hm => ?_, ?_⟩
  · rw [valV_put]
    by_cases e : i = n + k
    · subst e
      rw [if_pos rfl]
    · have e2 : ¬ (Sum.inl (i : Int) : Key) = Sum.inl ((n + k : Nat) : Int) := fun z => e (by have := Sum.inl.inj z; omega)
      rw [if_neg e2]
      exact h.1 i (by omega) hm
  · have := length_putK kvs (.inl ((n + k : Nat) : Int)) (.int (rk nd n (n + k) : Nat))
    have := h.2
    omega
theorem Placed.skip {kvs : List (Key × V)} {nd : List Nat} {n k : Nat} (h : Placed kvs nd n k) (hm : n + k ∉ nd) : Placed kvs nd n (k + 1) := by
  refine ⟨fun i hi hm2 => ?_, by have := h.2; omega⟩
  by_cases e : i = n + k
  · subst e
    rcases hm2 with z | z
    · omega
    · exact absurd z hm
  · exact h.1 i (by omega) hm2
section
variable {P : Program} {w : World} {K : PySem.W.Frag} {mg : Str → Option Value} {base : Heap}
def NUse : List Str := ["origins", "many", "needed", "at", "places", "steps", "one", "other", "place"]
theorem scUse : FnScope NUse ["origins", "many"] (defScope (top 19)) := ⟨rfl, rfl, rfl, by decide +kernel, rfl, by decide +kernel, by decide +kernel⟩
theorem ok_use (T : Tx K mg) : Fd P w K mg base CX0 2 "_steps_of_use" ["origins", "many"] (spUse K) := by
  obtain ⟨fd, F⟩ := T.F__steps_of_use
  refine ⟨fd, ?_, F.bindsN fun _ _ _ _ _ _ us hl => match us, hl with | [_, _], _ => rfl, F.kp⟩
  refine F.ok scUse (fun vs H Q E h => ?_) (fun cdv A outer s H vs Q E hr h => ?_)
  · obtain ⟨lo, o, n, rfl, _⟩ := h
    rfl
  · obtain ⟨lo, o, n, rfl, ho, ok, k⟩ := h
    refine ⟨_, PSs.nox (pss_cons (ps_set (i := 2) scUse.nd rfl (Or.inl rfl) (pe_disp (pps_cons (pe_op op_sub (pe_callB call_len_seq (by rfl) T.b_len PySem.boot_len (pa_cons (pv 0) pa_nil)) pe_int) pe_bl pps_nil) (by rfl) (by rfl) (fun z => by cases z) (by decide)))
      (pss_cons (ps_for PassesOwn.never rfl (pi_revR (by rfl) T.b_reversed (prg_2 (by rfl) T.b_range (pv 1) (pe_callB call_len_seq (by rfl) T.b_len PySem.boot_len (pa_cons (pv 0) pa_nil)))) (pg_name (i := 3) scUse.nd rfl (Or.inl rfl))
        (pss_one (ps_if (pt_cmp (pc_din (hu_of hr) (pv 3) (pv 2)))
          (pss_cons (ps_dput (hu_of hr) (pv 2) (pe_ix ix_sq (pe_ix ix_sq (pv 0) (pv 3) (fun _ _ => rfl)) pe_int (fun _ _ => rfl)) pe_bl rfl)
            (pss_one (ps_dput (hu_of hr) (pv 2) (pe_ix ix_sq (pe_ix ix_sq (pv 0) (pv 3) (fun _ _ => rfl)) pe_int (fun _ _ => rfl)) pe_bl rfl))) pss_nil)))
      (pss_cons (ps_setDc (i := 4) (own := [("at", 3)]) (g := gName 3) (tt := tYes) rfl scUse.nd rfl rfl (sw_trueD rfl rfl rfl (by decide +kernel)) (pi_range1 (by rfl) T.b_range (pa_cons (pv 1) pa_nil)) (blkOk_by (N := NUse) (sc := defScope (top 19)) (by decide +kernel)) (fun _ _ _ _ _ => pg_name (i := 3) scUse.nd rfl (Or.inl rfl)) (fun _ _ _ _ _ => pts_nil)
          (fun _ _ _ _ _ => pv 3) (fun _ _ _ _ _ => pv 3))
      (pss_cons (ps_set (i := 5) scUse.nd rfl (Or.inl rfl) (pe_lst pa_nil))
      (pss_cons (ps_for PassesOwn.never rfl (pi_range2 (by rfl) T.b_range (pa_cons (pv 1) (pa_cons (pe_callB call_len_seq (by rfl) T.b_len PySem.boot_len (pa_cons (pv 0) pa_nil)) pa_nil))) (pg_name (i := 3) scUse.nd rfl (Or.inl rfl))
        (pss_one (ps_if (pt_cmp (pc_din (hu_of hr) (pv 3) (pv 2)))
          (pss_cons (ps_asg (pe_ix ix_sq (pv 0) (pv 3) (fun _ _ => rfl)) (pg_tup (by rfl) (pgs_cons (pg_name (i := 6) scUse.nd rfl (Or.inl rfl)) (pgs_cons (pg_name (i := 7) scUse.nd rfl (Or.inl rfl)) (pgs_cons (pg_name (i := 8) scUse.nd rfl (Or.inl rfl)) pgs_nil)))))
            (pss_cons (ps_dput (hu_of hr) (pv 4) (pv 3) (pe_op op_add (pv 1) (pe_callB call_len_seq (by rfl) T.b_len PySem.boot_len (pa_cons (pv 5) pa_nil))) rfl)
              (pss_one (ps_expr (pe_bm PySem.F.plainAttrs_list PySem.F.slot_list_append PySem.F.type_list_append mt_append (pv 5) (pa_cons (pe_tup (pa_cons (pe_dget (hu_of hr) (pv 4) (pv 6) (fun _ _ => rfl)) (pa_cons (pe_dget (hu_of hr) (pv 4) (pv 7) (fun _ _ => rfl)) (pa_cons (pv 8) pa_nil)))) pa_nil)))))) pss_nil)))
      (pss_one (ps_ret (pe_callTy call_tuple_of (by rfl) T.b_tuple (by decide +kernel) (pa_cons (pv 5) pa_nil))))))))), ?_⟩
    obtain ⟨ov, ho1, ho2⟩ := id ho
    have lv : ov.length = o.length := by
      have := dpAll_len ho2
      rwa [List.length_map] at this
    have olt := ok.lt
    have ole := ok.le
    have big : 100000 ≤ sizeLine := by decide
    have p62 : (1000000 : Int) < 2 ^ 62 := by decide
    obtain ⟨np1, np2⟩ := need_props ok
    refine fun d hd => ⟨_, rfl, lo, ov, rfl, .inl (SqL.of (same_new hd _ _ ho1)), _, _, rfl, rfl, upd_same, [(Sum.inl ((ov.length : Int) - 1), .bl true)], rfl, (by show 1 ≤ 15; decide), ?_⟩
    rw [upd_upd]
    have em : mergeK [] [((Sum.inl ((ov.length : Int) - 1) : Key), V.bl true)] = [(Sum.inl ((ov.length : Int) - 1), V.bl true)] := rfl
    rw [em]
    have s0 : Same H (upd H d (.dK [(Sum.inl ((ov.length : Int) - 1), V.bl true)])) := same_new hd
    have k0 : Keyed [((Sum.inl ((ov.length : Int) - 1) : Key), V.bl true)] [o.length - 1] := by
      refine ⟨fun i => ?_, by simp⟩
      by_cases e : i = o.length - 1
      · subst e
        have e2 : (Sum.inl ((ov.length : Int) - 1) : Key) = Sum.inl ((o.length - 1 : Nat) : Int) := by
          congr 1
          omega
        rw [valV_pos e2]
        simp
      · have e2 : ¬ (Sum.inl ((ov.length : Int) - 1) : Key) = Sum.inl (i : Int) := fun z => e (by have := Sum.inl.inj z; omega)
        rw [valV_neg e2, valV_nil]
        simp [e]
    have eM : ((ov.length : Int) - (n : Int)).toNat = o.length - n := by omega
    refine ⟨_, rfl, _, rfl, lo, ov, rfl, .inl (SqL.of (s0 _ _ ho1)), _, _, rfl, rfl, by omega, by omega, by omega, by omega, ?_⟩
    rw [eM]
    refine for_rangeC (fun i σ H' => (∃ x3, σ = [some (.ref lo), some (.int n), some (.ref d), x3, none, none, none, none, none]) ∧ Same H H' ∧ ∃ nd kvs, H' d = some (.dK kvs) ∧ Keyed kvs nd ∧ needs o n (o.length - n - i) nd = need o n ∧ nd.length ≤ 1 + 2 * i)
      ⟨⟨_, rfl⟩, s0, _, _, upd_same, k0, rfl, Nat.le_refl _⟩ (fun i σ H1 hi p => ?_) (fun σ H1 p => ?_)
    · obtain ⟨⟨x3, rfl⟩, s1, nd, kvs, hk, hK, hN, hL⟩ := p
      have eat : ((n : Int) + ((o.length - n : Nat) : Int) - 1 + (i : Nat) * (-1)) = ((n + (o.length - n - 1 - i) : Nat) : Int) := by omega
      rw [eat]
      have eS : o.length - n - i = (o.length - n - 1 - i) + 1 := by omega
      rw [eS] at hN
      have eS2 : o.length - n - (i + 1) = o.length - n - 1 - i := by omega
      generalize hj : o.length - n - 1 - i = j at hN eS2 ⊢
      refine ⟨_, rfl, _, rfl, d, _, rfl, DGet.k (k := Sum.inl ((n + j : Nat) : Int)) hk, _, rfl, ?_⟩
      rw [hK.1 (n + j)]
      have hN' : needs o n j (if (n + j) ∈ nd then nd ++ [(orgs o (n + j)).1, (orgs o (n + j)).2.1] else nd) = need o n := hN
      refine ite2 (fun c => ?_) (fun c => ?_)
      · have hm : n + j ∈ nd := of_decide_eq_true c
        rw [if_pos hm] at hN'
        obtain ⟨e1, _, _⟩ := org_at ok (i := n + j) (by omega) (by omega)
        have at1 : (o.map orgD)[n + j]? = some (stpD (orgs o (n + j))) := by
          rw [List.getElem?_map, e1]
          rfl
        obtain ⟨v1, u1, q1, q2, q3⟩ := ld_at (ho.same s1) at1
        obtain ⟨t1, rfl, q4⟩ := stp_open q3
        have kl := hK.2
        refine ⟨_, rfl, _, rfl, _, rfl, ix_at (.inl q1) (atI_nat q2) (ix_at (.inr q4) rfl ⟨d, _, rfl, DPut.k (k := Sum.inl ((orgs o (n + j)).1 : Int)) hk (by omega), ?_⟩)⟩
        have s2 : Same H (upd H1 d (.dK (putK kvs (Sum.inl ((orgs o (n + j)).1 : Int)) (.bl true)))) := same_upd s1 hd
        obtain ⟨v2, u2, r1, r2, r3⟩ := ld_at (ho.same s2) at1
        obtain ⟨t2, rfl, r4⟩ := stp_open r3
        have hK1 := hK.put (orgs o (n + j)).1 (.bl true)
        have kl1 := hK1.2
        rw [List.length_append] at kl1
        simp only [List.length_cons, List.length_nil] at kl1
        refine ⟨_, rfl, _, rfl, _, rfl, ix_at (.inl r1) (atI_nat r2) (ix_at (.inr r4) rfl ⟨d, _, rfl, DPut.k (k := Sum.inl ((orgs o (n + j)).2.1 : Int)) upd_same (by omega), ?_⟩)⟩
        refine ⟨⟨_, rfl⟩, same_upd s2 hd, nd ++ [(orgs o (n + j)).1, (orgs o (n + j)).2.1], _, upd_same, ?_, by rw [eS2]; exact hN', ?_⟩
        · have := hK1.put (orgs o (n + j)).2.1 (.bl true)
          rw [List.append_assoc] at this
          exact this
        · rw [List.length_append]
          simp only [List.length_cons, List.length_nil]
          omega
      · have hm : n + j ∉ nd := fun z => c (decide_eq_true z)
        rw [if_neg hm] at hN'
        exact ⟨⟨_, rfl⟩, s1, nd, kvs, hk, hK, by rw [eS2]; exact hN', by omega⟩
    · obtain ⟨⟨x3, rfl⟩, s1, nd, kvs, hk, hK, hN, hL⟩ := p
      rw [Nat.sub_self] at hN
      have hN' : nd = need o n := hN
      subst hN'
      refine ⟨_, rfl, _, rfl, by omega, by omega, fun p hp => ?_⟩
      have hpH : H p = none := s1.free hp
      have ndp : d ≠ p := ne_of_none hk hp
      refine dc_range (lo := 0) (n := n) (fun i H' => ∃ pl, H' p = some (.dK pl) ∧ (∀ j, j < i → valV pl (.inl (j : Int)) = some (.int (j : Int))) ∧ pl.length ≤ i ∧ Same H1 H') ⟨[], upd_same, fun j hj => absurd hj (Nat.not_lt_zero j), Nat.le_refl _, same_new hp⟩
        (fun i H2 hi q => ?_) (fun H2 q => ?_)
      · obtain ⟨pl, h1, h2, h3, h4⟩ := q
        rw [Int.zero_add]
        refine ⟨rfl, _, rfl, _, rfl, pl, Sum.inl (i : Int), rfl, h1, by omega, _, upd_same, fun j hj => ?_, ?_, same_upd h4 hp⟩
        · rw [valV_put]
          by_cases e : j = i
          · subst e
            rw [if_pos rfl]
          · have e2 : ¬ (Sum.inl (j : Int) : Key) = Sum.inl (i : Int) := fun z => e (by have := Sum.inl.inj z; omega)
            rw [if_neg e2]
            exact h2 j (by omega)
        · have := length_putK pl (Sum.inl (i : Int)) (.int (i : Int))
          omega
      · obtain ⟨pl, h1, h2, h3, h4⟩ := q
        have s2 := same_trans s1 h4
        have hk2 := h4 _ _ hk
        refine ⟨(by show 0 ≤ sizeLine; decide), fun ls hls => ?_⟩
        have hlsH : H ls = none := s2.free hls
        have s3 : Same H (upd H2 ls (.lst [])) := same_upd s2 hlsH
        have sn : Same H2 (upd H2 ls (.lst [])) := same_new hls
        refine ⟨_, rfl, _, rfl, lo, ov, rfl, .inl (SqL.of (s3 _ _ ho1)), _, _, rfl, ⟨by omega, by omega, by omega, by omega⟩, ?_⟩
        rw [eM]
        have P0 : Placed pl (need o n) n 0 := ⟨fun i hi hm => by
          have hin : i < n := by omega
          rw [h2 i hin]
          unfold rk
          rw [if_pos hin], h3⟩
        refine for_range (fun i σ H' => (∃ x3 x6 x7 x8, σ = [some (.ref lo), some (.int n), some (.ref d), x3, some (.ref p), some (.ref ls), x6, x7, x8]) ∧ Same H H' ∧ H' d = some (.dK kvs) ∧ (∃ pl, H' p = some (.dK pl) ∧ Placed pl (need o n) n i) ∧ LD K H' ls (((kept (need o n) n i).map (conv o (need o n) n)).map stpD))
          ⟨⟨_, _, _, _, rfl⟩, s3, sn _ _ hk2, ⟨pl, sn _ _ h1, P0⟩, LD.new⟩ (fun i σ H4 hi q => ?_) (fun σ H4 q => ?_)
        · obtain ⟨⟨x3, x6, x7, x8, rfl⟩, s4, hk4, ⟨pl, hp4, hP⟩, hL4⟩ := q
          have eat : ((n : Int) + (i : Int)) = ((n + i : Nat) : Int) := by omega
          rw [eat]
          refine ⟨_, rfl, _, rfl, d, _, rfl, DGet.k (k := Sum.inl ((n + i : Nat) : Int)) hk4, _, rfl, ?_⟩
          rw [hK.1 (n + i)]
          refine ite2 (fun c => ?_) (fun c => ?_)
          · have hm : n + i ∈ need o n := of_decide_eq_true c
            obtain ⟨e1, o1, o2⟩ := org_at ok (i := n + i) (by omega) (by omega)
            obtain ⟨m1, m2⟩ := np1 (n + i) (by omega) (by omega) hm
            have at1 : (o.map orgD)[n + i]? = some (stpD (orgs o (n + i))) := by
              rw [List.getElem?_map, e1]
              rfl
            obtain ⟨v1, u1, q1, q2, q3⟩ := ld_at (ho.same s4) at1
            obtain ⟨t1, rfl, q4⟩ := stp_open q3
            refine ⟨_, rfl, _, rfl, ix_at (.inl q1) (atI_nat q2) ⟨t1, _, rfl, q4, rfl, _, _, rfl, _, _, rfl, _, _, rfl, rfl, ?_⟩⟩
            obtain ⟨sv, hs1, hs2⟩ := id hL4
            have sl : sv.length = (kept (need o n) n i).length := by
              have := dpAll_len hs2
              rwa [List.length_map, List.length_map] at this
            have kl := kept_len (nd := need o n) (n := n) (k := i)
            have pll := hP.2
            have erk : ((n : Int) + ((sv.length : Nat) : Int)) = ((rk (need o n) n (n + i) : Nat) : Int) := by
              unfold rk
              rw [if_neg (by omega), Nat.add_sub_cancel_left, sl]
              omega
            refine ⟨_, rfl, _, rfl, ls, sv, rfl, .inl (SqL.of hs1), _, _, rfl, rfl, _, rfl, _, rfl, p, upd H4 p (.dK (putK pl (Sum.inl ((n + i : Nat) : Int)) (.int (rk (need o n) n (n + i) : Nat)))), rfl, (by
              rw [← erk]
              exact DPut.k (k := Sum.inl ((n + i : Nat) : Int)) hp4 (by omega)), ?_⟩
            have P1 := hP.put
            have gp4 := grow_dK' (o := .dK (putK pl (Sum.inl ((n + i : Nat) : Int)) (.int (rk (need o n) n (n + i) : Nat)))) hp4
            have nlp : ls ≠ p := ne_of hs1 hp4 (by intro z; cases z)
            have nld : ls ≠ d := ne_of hs1 hk4 (by intro z; cases z)
            have hL5 := hL4.other gp4 nlp (stps_firm _)
            obtain ⟨sv5, hs5, _⟩ := id hL5
            have r1 := P1.1 (orgs o (n + i)).1 (by omega) (.inr m1)
            have r2 := P1.1 (orgs o (n + i)).2.1 (by omega) (.inr m2)
            refine ⟨_, rfl, .inl ⟨rfl, _, SqL.of hs5⟩, ⟨_, rfl, _, rfl, p, _, rfl, by rw [← r1]; exact DGet.k (k := Sum.inl ((orgs o (n + i)).1 : Int)) upd_same, ?_⟩⟩
            refine ⟨_, rfl, _, rfl, p, _, rfl, by rw [← r2]; exact DGet.k (k := Sum.inl ((orgs o (n + i)).2.1 : Int)) upd_same, ?_⟩
            refine ⟨_, rfl, (by show 3 ≤ sizeLine; decide), fun t ht => nil_go ?_⟩
            have st := same_new (o := .tup [.int (rk (need o n) n (orgs o (n + i)).1 : Nat), .int (rk (need o n) n (orgs o (n + i)).2.1 : Nat), .int (orgs o (n + i)).2.2]) ht
            refine app_data (d := stpD (conv o (need o n) n (n + i))) (hL5.same st) (three upd_same) (by simp only [List.length_map]; omega) (stps_firm _) rfl fun e he ge => ?_
            have hp5 := st _ _ (upd_same (H := H4) (a := p) (o := .dK (putK pl (Sum.inl ((n + i : Nat) : Int)) (.int (rk (need o n) n (n + i) : Nat)))))
            have hk5 : upd H4 p (.dK (putK pl (Sum.inl ((n + i : Nat) : Int)) (.int (rk (need o n) n (n + i) : Nat)))) d = some (.dK kvs) := by
              rw [upd_ne ndp]
              exact hk4
            refine ⟨⟨_, _, _, _, rfl⟩, same_upd (same_trans (same_upd s4 hpH) st) hlsH, ?_, ⟨_, ?_, P1⟩, ?_⟩
            · rw [upd_ne nld.symm]
              exact st _ _ hk5
            · rw [upd_ne nlp.symm]
              exact hp5
            · rw [kept_succ, if_pos hm, List.map_append, List.map_append]
              exact he
          · have hm : n + i ∉ need o n := fun z => c (decide_eq_true z)
            refine ⟨⟨_, _, _, _, rfl⟩, s4, hk4, ⟨pl, hp4, hP.skip hm⟩, ?_⟩
            rw [kept_succ, if_neg hm, List.append_nil]
            exact hL4
        · obtain ⟨⟨x3, x6, x7, x8, rfl⟩, s4, hk4, _, hL4⟩ := q
          obtain ⟨sv, hs1, hs2⟩ := id hL4
          refine ⟨_, rfl, ls, sv, rfl, .inl ⟨SqL.of hs1, fun t ht => k _ t (same_trans s4 (same_new ht)) (s4.free ht) ?_⟩⟩
          exact .tup (SqT.of upd_same) (dpAll_mono (same_new ht) _ _ hs2)
end
end K07

set_option Elab.async false
set_option linter.all false
set_option pp.maxSteps 800
set_option pp.deepTerms false
set_option maxRecDepth 100000
set_option maxHeartbeats 16000000
namespace K07
open PySem PySem.Spec PyProof.Rows L2 Say
/-! ### premises as keys -/
def pmK (p : Pm) : NestedKey := .tup [.tup (p.1.map NestedKey.num), .tup (p.2.map NestedKey.num)]
theorem datas_num : ∀ ns : List Int, NestedKey.datas (ns.map NestedKey.num) = ns.map PyData.int
  | [] => rfl
  | n :: ns => by
    show NestedKey.data (.num n) :: NestedKey.datas (ns.map NestedKey.num) = _
    rw [datas_num ns]
    rfl
theorem depth_num : ∀ ns : List Int, NestedKey.depthAll (ns.map NestedKey.num) = 0
  | [] => rfl
  | n :: ns => by
    show max (NestedKey.depth (.num n)) (NestedKey.depthAll (ns.map NestedKey.num)) = 0
    rw [depth_num ns]
    rfl
theorem pmK_data (p : Pm) : (pmK p).data = pmD p := by
  show PyData.tuple [PyData.tuple (NestedKey.datas (p.1.map NestedKey.num)), PyData.tuple (NestedKey.datas (p.2.map NestedKey.num))] = _
  rw [datas_num, datas_num]
  rfl
theorem pmK_depth (p : Pm) : (pmK p).depth ≤ 8 := by
  show max (NestedKey.depthAll (p.1.map NestedKey.num) + 1) (max (NestedKey.depthAll (p.2.map NestedKey.num) + 1) 0) + 1 ≤ 8
  rw [depth_num, depth_num]
  decide
theorem num_inj {a b : List Int} (h : a.map NestedKey.num = b.map NestedKey.num) : a = b := by
  have := congrArg NestedKey.datas h
  rw [datas_num, datas_num] at this
  have go : ∀ xs ys : List Int, xs.map PyData.int = ys.map PyData.int → xs = ys := by
    intro xs
    induction xs with
    | nil =>
      intro ys e
      cases ys with
      | nil => rfl
      | cons y ys => cases e
    | cons x xs ih =>
      intro ys e
      cases ys with
      | nil => cases e
      | cons y ys =>
        rw [List.map_cons, List.map_cons] at e
        injection e with e1 e2
        injection e1 with e1
        rw [e1, ih ys e2]
  exact go a b this
theorem pmK_inj {p q : Pm} (h : pmK p = pmK q) : p = q := by
  unfold pmK at h
  injection h with h
  injection h with h1 h2
  injection h2 with h2 _
  injection h1 with h1
  injection h2 with h2
  exact Prod.ext (num_inj h1) (num_inj h2)
def seenK (seen : List (Pm × Nat)) : List (NestedKey × V) := seen.map fun q => (pmK q.1, V.int (q.2 : Nat))
theorem seenK_has (p : Pm) : ∀ seen : List (Pm × Nat), (valV (seenK seen) (pmK p)).isSome = inS seen p
  | [] => rfl
  | q :: r => by
    have ih := seenK_has p r
    unfold inS at ih ⊢
    rw [List.any_cons, ← ih]
    by_cases e : q.1 = p
    · subst e
      show (valV ((pmK q.1, V.int (q.2 : Nat)) :: seenK r) (pmK q.1)).isSome = _
      rw [valV_pos rfl]
      simp
    · show (valV ((pmK q.1, V.int (q.2 : Nat)) :: seenK r) (pmK p)).isSome = _
      rw [valV_neg (fun z => e (pmK_inj z))]
      simp [e]
theorem seenK_put {p : Pm} {seen : List (Pm × Nat)} {i : Nat} (h : inS seen p = false) : putK (seenK seen) (pmK p) (.int (i : Nat)) = seenK (seen ++ [(p, i)]) := by
  have hv : valV (seenK seen) (pmK p) = none := by
    have := seenK_has p seen
    rw [h] at this
    cases e : valV (seenK seen) (pmK p) with
    | none => rfl
    | some v =>
      rw [e] at this
      cases this
  rw [putK_new _ hv]
  unfold seenK
  rw [List.map_append]
  rfl
theorem seenK_vals (seen : List (Pm × Nat)) : (seenK seen).map (·.2) = (seen.map (·.2)).map fun i : Nat => V.int (i : Int) := by
  unfold seenK
  rw [List.map_map, List.map_map]
  rfl
theorem seenK_len (seen : List (Pm × Nat)) : (seenK seen).length = seen.length := by
  unfold seenK
  rw [List.length_map]
theorem ld_nats {K : PySem.W.Frag} {H : Hp} {l : Addr} {ns : List Nat} (h : H l = some (.lst (ns.map fun i : Nat => V.int (i : Int)))) : LD K H l (ns.map natD) := by
  refine ⟨_, h, ?_⟩
  have := ints_dp (K := K) (H := H) (ns.map fun i : Nat => (i : Int))
  rw [List.map_map, List.map_map] at this
  exact this
theorem nats_ld {K : PySem.W.Frag} {H : Hp} {l : Addr} {ns : List Nat} (h : LD K H l (ns.map natD)) : H l = some (.lst (ns.map fun i : Nat => V.int (i : Int))) := by
  obtain ⟨vs, h1, h2⟩ := h
  have e : vs = ns.map fun n : Nat => V.int (n : Int) := by
    have := dp_ints (ns := ns.map fun n : Nat => (n : Int)) (by rw [List.map_map]; exact h2)
    rw [this, List.map_map]
    rfl
  rw [← e]
  exact h1
/-- the search's state, as it lies in the heap -/
structure Rep (K : PySem.W.Frag) (P : Program) (w : World) (H0 H : Hp) (lm lo ls lq ld : Addr) (s : S) : Prop where
  same : Same H0 H
  made : LD K H lm (s.made.map pmD)
  orig : LD K H lo (s.orig.map orgD)
  seen : DN K P w H ls (seenK s.seen)
  queue : LD K H lq (s.queue.map natD)
  done : LD K H ld (s.done.map natD)
/-- where it lies: all new, all apart -/
structure Lies (H0 : Hp) (lm lo ls lq ld : Addr) : Prop where
  m0 : H0 lm = none
  o0 : H0 lo = none
  s0 : H0 ls = none
  q0 : H0 lq = none
  d0 : H0 ld = none
  mo : lm ≠ lo
  ms : lm ≠ ls
  mq : lm ≠ lq
  md : lm ≠ ld
  os : lo ≠ ls
  oq : lo ≠ lq
  od : lo ≠ ld
  sq : ls ≠ lq
  sd : ls ≠ ld
  qd : lq ≠ ld
theorem dn_other {K : PySem.W.Frag} {P : Program} {w : World} {H : Hp} {D l : Addr} {kvs : List (NestedKey × V)} {o : HO} (h : DN K P w H D kvs) (g : Grow H (upd H l o)) (n : D ≠ l) : DN K P w (upd H l o) D kvs := dn_grow g (upd_ne n) h
section
variable {K : PySem.W.Frag} {P : Program} {w : World} {H0 H H' : Hp} {lm lo ls lq ld : Addr} {s : S} {o : HO}
theorem rep_same (t : Same H H') (R : Rep K P w H0 H lm lo ls lq ld s) : Rep K P w H0 H' lm lo ls lq ld s :=
  ⟨same_trans R.same t, R.made.same t, R.orig.same t, dn_same t R.seen, R.queue.same t, R.done.same t⟩
theorem rep_seen (L : Lies H0 lm lo ls lq ld) (R : Rep K P w H0 H lm lo ls lq ld s) (g : Grow H (upd H ls o)) {sn : List (Pm × Nat)} (h : DN K P w (upd H ls o) ls (seenK sn)) : Rep K P w H0 (upd H ls o) lm lo ls lq ld { s with seen := sn } :=
  ⟨same_upd R.same L.s0, R.made.other g L.ms (pms_firm _), R.orig.other g L.os (orgs_firm _), h, R.queue.other g L.sq.symm (nats_firm _), R.done.other g L.sd.symm (nats_firm _)⟩
theorem rep_queue (L : Lies H0 lm lo ls lq ld) (R : Rep K P w H0 H lm lo ls lq ld s) (g : Grow H (upd H lq o)) {qn : List Nat} (h : LD K (upd H lq o) lq (qn.map natD)) : Rep K P w H0 (upd H lq o) lm lo ls lq ld { s with queue := qn } :=
  ⟨same_upd R.same L.q0, R.made.other g L.mq (pms_firm _), R.orig.other g L.oq (orgs_firm _), dn_other R.seen g L.sq, h, R.done.other g L.qd.symm (nats_firm _)⟩
theorem rep_done (L : Lies H0 lm lo ls lq ld) (R : Rep K P w H0 H lm lo ls lq ld s) (g : Grow H (upd H ld o)) {qn : List Nat} (h : LD K (upd H ld o) ld (qn.map natD)) : Rep K P w H0 (upd H ld o) lm lo ls lq ld { s with done := qn } :=
  ⟨same_upd R.same L.d0, R.made.other g L.md (pms_firm _), R.orig.other g L.od (orgs_firm _), dn_other R.seen g L.sd, R.queue.other g L.qd (nats_firm _), h⟩
theorem rep_made (L : Lies H0 lm lo ls lq ld) (R : Rep K P w H0 H lm lo ls lq ld s) (g : Grow H (upd H lm o)) {m : List Pm} (h : LD K (upd H lm o) lm (m.map pmD)) : Rep K P w H0 (upd H lm o) lm lo ls lq ld { s with made := m } :=
  ⟨same_upd R.same L.m0, h, R.orig.other g L.mo.symm (orgs_firm _), dn_other R.seen g L.ms.symm, R.queue.other g L.mq.symm (nats_firm _), R.done.other g L.md.symm (nats_firm _)⟩
theorem rep_orig (L : Lies H0 lm lo ls lq ld) (R : Rep K P w H0 H lm lo ls lq ld s) (g : Grow H (upd H lo o)) {m : List (Option Stp)} (h : LD K (upd H lo o) lo (m.map orgD)) : Rep K P w H0 (upd H lo o) lm lo ls lq ld { s with orig := m } :=
  ⟨same_upd R.same L.o0, R.made.other g L.mo (pms_firm _), h, dn_other R.seen g L.os.symm, R.queue.other g L.oq.symm (nats_firm _), R.done.other g L.od.symm (nats_firm _)⟩
end
theorem outer_nil {go : Pm} {k : Nat} {s : S} (e : s.queue = []) : outer go k s = none := by
  cases k with
  | zero => rfl
  | succ k =>
    unfold outer
    rw [e]
def after (go : Pm) (k : Nat) : S × Bool → Option S
  | (s2, true) => some s2
  | (s2, false) => outer go k s2
theorem outer_cons {go : Pm} {k : Nat} {s : S} {a : Nat} {q : List Nat} (e : s.queue = a :: q) : outer go (k + 1) s = after go k (inner go (stepsAt s.made (s.done ++ [a]) a) (turn s a q)) := by
  conv => lhs; unfold outer
  rw [e]
  show (match inner go (stepsAt s.made (s.done ++ [a]) a) (turn s a q) with | (s2, true) => some s2 | (s2, false) => outer go k s2) = _
  rcases inner go (stepsAt s.made (s.done ++ [a]) a) (turn s a q) with ⟨s2, b⟩
  cases b <;> rfl
theorem key_dp {K : PySem.W.Frag} {H : Hp} {v : V} {p : Pm} (h : Dp K H v (pmD p)) : Dp K H v (pmK p).data := by
  rw [pmK_data]
  exact h
def spFound (K : PySem.W.Frag) : Sp := fun vs H Q _ => ∃ (v u : V) (told : List Pm) (go : Pm), vs = [v, u] ∧ (∃ a us, v = .ref a ∧ SqT K H a us ∧ DpAll K H us (told.map pmD)) ∧ Dp K H u (pmD go) ∧ (∀ p ∈ told, can3 p) ∧ told.length ≤ 200 ∧
  (foundG go told = none → ∀ H', Same H H' → Q .non H') ∧ ∀ ts, foundG go told = some ts → ∀ H' t, Same H H' → H t = none → Dp K H' (.ref t) (.tuple (ts.map stpD)) → Q (.ref t) H'
section
variable {P : Program} {w : World} {K : PySem.W.Frag} {mg : Str → Option Value} {base : Heap}
def NFound : List Str := ["told", "goal", "premise", "made", "origins", "seen", "at", "queue", "done", "steps", "step", "_"]
theorem scFound : FnScope NFound ["told", "goal"] (defScope (top 17)) := ⟨rfl, rfl, rfl, by decide +kernel, rfl, by decide +kernel, by decide +kernel⟩
theorem ok_found (T : Tx K mg) : Fd P w K mg base CX0 3 "found_steps" ["told", "goal"] (spFound K) := by
  obtain ⟨fd, F⟩ := T.F_found_steps
  refine ⟨fd, ?_, F.bindsN fun _ _ _ _ _ _ us hl => match us, hl with | [_, _], _ => rfl, F.kp⟩
  refine F.ok scFound (fun vs H Q E h => ?_) (fun cdv A ou s H vs Q E hr h => ?_)
  · obtain ⟨v, u, told, go, rfl, _⟩ := h
    rfl
  · obtain ⟨v, u, told, go, rfl, ⟨a, us, rfl, hq, hu⟩, hgo, c3, t200, kn, ks⟩ := h
    have hun := hr.units
    refine ⟨_, PSs.nox (pss_cons (ps_for PassesOwn.never rfl (pi_sq (pv 0)) (pg_name (i := 2) scFound.nd rfl (Or.inl rfl)) (pss_one (ps_if (pt_val (pe_fd (ok_within T) (hr.mono (by decide)) rfl T.g_is_within pass0 (pa_cons (pv 2) (pa_cons (pv 1) pa_nil)))) (pss_one (ps_ret (pe_tup pa_nil))) pss_nil)))
      (pss_cons (ps_set (i := 3) scFound.nd rfl (Or.inl rfl) (pe_callTy call_list_of (by rfl) T.b_list (by decide +kernel) (pa_cons (pv 0) pa_nil)))
      (pss_cons (ps_setLc (i := 4) (own := [("_", 11)]) (g := gName 11) (tt := tYes) rfl scFound.nd rfl rfl (sw_true rfl rfl rfl (by decide +kernel)) (pi_sq (pv 0)) (blkOk_by (N := NFound) (sc := defScope (top 17)) (by decide +kernel)) (fun _ _ _ _ _ => pg_name (i := 11) scFound.nd rfl (Or.inl rfl)) (fun _ _ _ _ _ => pts_nil) (fun _ _ _ _ _ => pe_non))
      (pss_cons (ps_set (i := 5) scFound.nd rfl (Or.inl rfl) pe_dnewN)
      (pss_cons (ps_for PassesOwn.never rfl (pi_enumSq (by rfl) T.b_enumerate (pa_cons (pv 0) pa_nil)) (pg_tup (by rfl) (pgs_cons (pg_name (i := 6) scFound.nd rfl (Or.inl rfl)) (pgs_cons (pg_name (i := 2) scFound.nd rfl (Or.inl rfl)) pgs_nil)))
        (pss_one (ps_if (PW.pt (pw_and (pt_cmpR (op_notInN hun) (pv 2) (pv 5) rfl) (pw_and1 (pt_not (pt_val (pe_fd (ok_has T) (hr.mono (by decide)) rfl T.g_has_both pass0 (pa_cons (pv 2) pa_nil)))))))
          (pss_one (ps_asg (pv 6) (pg_sub (pv 5) (pv 2) (set_N hun)))) pss_nil)))
      (pss_cons (ps_set (i := 7) scFound.nd rfl (Or.inl rfl) (pe_listValsN (by rfl) (pv 5) (by rfl) T.b_list))
      (pss_cons (ps_set (i := 8) scFound.nd rfl (Or.inl rfl) (pe_lst pa_nil))
      (pss_cons (ps_while PassesOwn.never (pt_truth (pv 7) (by intro _; rfl))
        (pss_cons (ps_set (i := 6) scFound.nd rfl (Or.inl rfl) (pe_bm PySem.F.plainAttrs_list PySem.F.slot_list_pop PySem.F.type_list_pop mt_popAt (pv 7) (pa_cons pe_int pa_nil)))
        (pss_cons (ps_expr (pe_bm PySem.F.plainAttrs_list PySem.F.slot_list_append PySem.F.type_list_append mt_append (pv 8) (pa_cons (pv 6) pa_nil)))
        (pss_cons (ps_set (i := 9) scFound.nd rfl (Or.inl rfl) (pe_fd (ok_sw T) hr rfl T.g__steps_with pass0 (pa_cons (pv 3) (pa_cons (pv 8) (pa_cons (pv 6) pa_nil)))))
        (pss_one (ps_for PassesOwn.never rfl (pi_sq (pv 9)) (pg_name (i := 10) scFound.nd rfl (Or.inl rfl))
          (pss_cons (ps_set (i := 2) scFound.nd rfl (Or.inl rfl) (pe_fd (ok_stepped T) hr rfl T.g_stepped pass0 (pa_cons (pe_ix ix_sq (pv 3) (pe_ix ix_sq (pv 10) pe_int (fun _ _ => rfl)) (fun _ _ => rfl)) (pa_cons (pe_ix ix_sq (pv 3) (pe_ix ix_sq (pv 10) pe_int (fun _ _ => rfl)) (fun _ _ => rfl)) (pa_cons (pe_ix ix_sq (pv 10) pe_int (fun _ _ => rfl)) pa_nil)))))
          (pss_cons (ps_if (PW.pt (pw_or (pt_cmpR (op_inN hun) (pv 2) (pv 5) rfl) (pw_or1 (pt_val (pe_fd (ok_has T) (hr.mono (by decide)) rfl T.g_has_both pass0 (pa_cons (pv 2) pa_nil)))))) (pss_one ps_continue) pss_nil)
          (pss_cons (ps_asg (pe_callB call_len_seq (by rfl) T.b_len PySem.boot_len (pa_cons (pv 3) pa_nil)) (pg_sub (pv 5) (pv 2) (set_N hun)))
          (pss_cons (ps_expr (pe_bm PySem.F.plainAttrs_list PySem.F.slot_list_append PySem.F.type_list_append mt_append (pv 7) (pa_cons (pe_callB call_len_seq (by rfl) T.b_len PySem.boot_len (pa_cons (pv 3) pa_nil)) pa_nil)))
          (pss_cons (ps_expr (pe_bm PySem.F.plainAttrs_list PySem.F.slot_list_append PySem.F.type_list_append mt_append (pv 3) (pa_cons (pv 2) pa_nil)))
          (pss_cons (ps_expr (pe_bm PySem.F.plainAttrs_list PySem.F.slot_list_append PySem.F.type_list_append mt_append (pv 4) (pa_cons (pv 10) pa_nil)))
          (pss_one (ps_if (pt_val (pe_fd (ok_within T) (hr.mono (by decide)) rfl T.g_is_within pass0 (pa_cons (pv 2) (pa_cons (pv 1) pa_nil))))
            (pss_one (ps_ret (pe_fd (ok_use T) hr rfl T.g__steps_of_use pass0 (pa_cons (pv 4) (pa_cons (pe_callB call_len_seq (by rfl) T.b_len PySem.boot_len (pa_cons (pv 0) pa_nil)) pa_nil))))) pss_nil))))))))))))))
      (pss_one (ps_ret pe_non)))))))))), ?_⟩
    have tl : us.length = told.length := by
      have := dpAll_len hu
      rwa [List.length_map] at this
    have item : ∀ {i : Nat} {x : V}, us[i]? = some x → ∃ p, told[i]? = some p ∧ Dp K H x (pmD p) := fun {i x} hx => by
      obtain ⟨d, hd, hp⟩ := dpAll_get hu hx
      rw [List.getElem?_map] at hd
      obtain ⟨p, hp1, rfl⟩ := Option.map_eq_some_iff.mp hd
      exact ⟨p, hp1, hp⟩
    -- is one told within the goal?
    refine ⟨_, rfl, a, rfl, for_sq (fun i σ H' => (∃ x2, σ = [some (.ref a), some u, x2, none, none, none, none, none, none, none, none, none]) ∧ Same H H' ∧ (told.take i).any (fun p => withinB p go) = false) (.inr hq) ⟨⟨_, rfl⟩, same_refl H, rfl⟩
      (fun i σ H' _ p => ⟨fun z => p.2.1.seq z, fun z => grow_sqT (grow_same p.2.1) z⟩) (fun i x σ H' hx p => ?_) (fun σ H' p => ?_)⟩
    · obtain ⟨⟨x2, rfl⟩, s1, hn⟩ := p
      obtain ⟨p, hp, dp⟩ := item hx
      refine ⟨_, rfl, _, rfl, x, u, p, go, rfl, dp_mono s1 _ _ dp, dp_mono s1 _ _ hgo, c3 p (List.mem_of_getElem? hp), fun H2 s2 => ⟨_, rfl, ite2 (fun c => ?_) (fun c => ?_)⟩⟩
      · have e : foundG go told = some [] := by
          unfold foundG
          rw [if_pos (List.any_eq_true.mpr ⟨p, List.mem_of_getElem? hp, c⟩)]
        refine ⟨(by show 0 ≤ sizeLine; decide), fun t ht => ks _ e _ t (same_trans (same_trans s1 s2) (same_new ht)) ((same_trans s1 s2).free ht) (.tup (SqT.of upd_same) .nil)⟩
      · refine ⟨⟨_, rfl⟩, same_trans s1 s2, ?_⟩
        rw [List.take_succ, hp, List.any_append, hn]
        simp only [Option.toList, List.any_cons, List.any_nil, Bool.or_false, Bool.false_or]
        exact Bool.eq_false_iff.mpr c
    · obtain ⟨⟨x2, rfl⟩, s1, hn⟩ := p
      rw [tl, List.take_length] at hn
      have noGo := no_go (go := go) (told := told) (by rw [hn]; exact Bool.false_ne_true)
      have eF : foundG go told = (outer go (pot (init told)) (init told)).map fun s => useS s.orig told.length := by
        unfold foundG
        rw [hn]
        rfl
      refine ⟨_, rfl, a, us, rfl, .inr (grow_sqT (grow_same s1) hq), fun lm hlm => ?_⟩
      have hlmH : H lm = none := s1.free hlm
      have s2 : Same H (upd H' lm (.lst us)) := same_upd s1 hlmH
      refine ⟨_, rfl, a, rfl, lc_sq (fun i => List.replicate i V.non) (.inr (grow_sqT (grow_same s2) hq)) rfl (fun D hD j y H3 hy pI => ?_) (fun lo H3 hlo pI => ?_)⟩
      · refine ⟨rfl, lci_step pI hD ?_ ?_⟩
        · have := (List.getElem?_eq_some_iff.mp hy).1
          have big : 100000 ≤ sizeLine := by decide
          rw [List.length_replicate]
          omega
        · rw [List.replicate_succ']
      have hloH : H lo = none := s2.free hlo
      have s3 := same_trans s2 pI.1
      have nmo : lm ≠ lo := ne_of_none upd_same hlo
      refine fun ls hls o hDN => ?_
      have hlsH : H ls = none := s3.free hls
      have s4 : Same H (upd H3 ls o) := same_upd s3 hlsH
      have sn : Same H3 (upd H3 ls o) := same_new hls
      have hm3 : H3 lm = some (.lst us) := pI.1 _ _ upd_same
      have nms : lm ≠ ls := ne_of_none hm3 hls
      have nos : lo ≠ ls := ne_of_none pI.2 hls
      have LM : LD K (upd H3 ls o) lm (told.map pmD) := ⟨us, sn _ _ hm3, dpAll_mono s4 _ _ hu⟩
      have LO : LD K (upd H3 ls o) lo ((told.map fun _ => (none : Option Stp)).map orgD) := by
        refine ⟨_, sn _ _ pI.2, ?_⟩
        rw [tl]
        have go : ∀ l : List Pm, DpAll K (upd H3 ls o) (List.replicate l.length V.non) ((l.map fun _ => (none : Option Stp)).map orgD) := by
          intro l
          induction l with
          | nil => exact .nil
          | cons p l ih => exact .cons .non ih
        exact go told
      refine ⟨_, rfl, a, rfl, for_enT (fun i σ H' => (∃ x2 x6, σ = [some (.ref a), some u, x2, some (.ref lm), some (.ref lo), some (.ref ls), x6, none, none, none, none, none]) ∧ Same H H' ∧ Grow (upd H3 ls o) H' ∧ LD K H' lm (told.map pmD) ∧ LD K H' lo ((told.map fun _ => (none : Option Stp)).map orgD) ∧
          ∃ acc, DN K P w H' ls (seenK acc) ∧ seenGo i (told.drop i) acc = seenGo 0 told [] ∧ acc.length ≤ i) (grow_sqT (grow_same s4) hq) ⟨⟨_, _, rfl⟩, s4, Grow.refl _, LM, LO, [], hDN, rfl, Nat.le_refl _⟩
        (fun i σ H' _ p => p.2.2.1) (fun i x σ H5 T hx p hT => ?_) (fun σ H5 p => ?_)⟩
      · obtain ⟨⟨x2, x6, rfl⟩, s5, g5, LM5, LO5, acc, hDN5, eq5, le5⟩ := p
        obtain ⟨p, hp, dp⟩ := item hx
        have s6 := same_new (o := .tup [.int (i : Nat), x]) hT
        have hil : i < told.length := (List.getElem?_eq_some_iff.mp hp).1
        have dp6 := dp_mono (same_trans s5 s6) _ _ dp
        obtain ⟨b, b1, b2, rfl, _⟩ := pm_open dp6
        have edrop : told.drop i = p :: told.drop (i + 1) := by
          rw [List.drop_eq_getElem_cons hil]
          congr 1
          rw [List.getElem?_eq_getElem hil] at hp
          exact Option.some.inj hp
        rw [edrop] at eq5
        have eq5' : seenGo (i + 1) (told.drop (i + 1)) (if !inS acc p && !bothB p then acc ++ [(p, i)] else acc) = seenGo 0 told [] := eq5
        refine ⟨T, _, rfl, SqT.of upd_same, rfl, _, _, rfl, _, _, rfl, rfl, ?_⟩
        refine ⟨_, rfl, _, rfl, b, ls, pmK p, seenK acc, rfl, rfl, key_dp dp6, pmK_depth p, dn_same s6 hDN5, _, rfl, ?_⟩
        rw [seenK_has]
        refine ite2 (fun c => ?_) (fun c => ?_)
        · have c' : (!inS acc p) = true := c
          refine ⟨_, rfl, .ref b, p, rfl, dp6, c3 p (List.mem_of_getElem? hp), fun H7 s7 => ⟨_, rfl, ?_⟩⟩
          have s67 := same_trans s6 s7
          refine ite2 (fun c2 => ?_) (fun c2 => ?_)
          · rw [c', c2] at eq5'
            have ina : inS acc p = false := by simpa using c'
            refine ⟨_, rfl, _, rfl, _, rfl, ls, b, pmK p, seenK acc, rfl, rfl, key_dp (dp_mono s7 _ _ dp6), pmK_depth p, dn_same s67 hDN5, ?_, fun v hv gv => ?_⟩
            · rw [seenK_len]
              have big : 100000 ≤ sizeLine := by decide
              omega
            · rw [seenK_put ina] at hv
              refine ⟨⟨_, _, rfl⟩, same_upd (same_trans s5 s67) hlsH, (g5.trans (grow_same s67)).trans gv, (LM5.same s67).other gv nms (pms_firm _), (LO5.same s67).other gv nos (orgs_firm _), _, hv, eq5', ?_⟩
              rw [List.length_append]
              simp only [List.length_cons, List.length_nil]
              omega
          · rw [c', Bool.eq_false_iff.mpr c2] at eq5'
            exact ⟨⟨_, _, rfl⟩, same_trans s5 s67, g5.trans (grow_same s67), LM5.same s67, LO5.same s67, acc, dn_same s67 hDN5, eq5', by omega⟩
        · have c' : ¬ (!inS acc p) = true := c
          rw [Bool.eq_false_iff.mpr c'] at eq5'
          exact ⟨⟨_, _, rfl⟩, same_trans s5 s6, g5.trans (grow_same s6), LM5.same s6, LO5.same s6, acc, dn_same s6 hDN5, eq5', by omega⟩
      · obtain ⟨⟨x2, x6, rfl⟩, s5, g5, LM5, LO5, acc, hDN5, eq5, le5⟩ := p
        rw [tl, List.drop_length] at eq5
        have eacc : acc = seenGo 0 told [] := eq5
        subst eacc
        have big : 100000 ≤ sizeLine := by decide
        refine ⟨_, rfl, ls, _, rfl, hDN5, by rw [seenK_len]; omega, fun lq hlq => ?_⟩
        rw [seenK_vals]
        have hlqH : H lq = none := s5.free hlq
        have s6 := same_new (o := .lst (((seenGo 0 told []).map (·.2)).map fun i : Nat => V.int (i : Int))) hlq
        obtain ⟨mv, hmv, _⟩ := id LM5
        obtain ⟨ov, hov, _⟩ := id LO5
        obtain ⟨sx, hsx, _⟩ := id hDN5
        refine ⟨(by show 0 ≤ sizeLine; decide), fun ld hld => ?_⟩
        have s7 := same_new (o := .lst []) hld
        have s67 := same_trans s6 s7
        have hldH : H ld = none := (same_trans s5 s6).free hld
        have LI : Lies H lm lo ls lq ld := ⟨hlmH, hloH, hlsH, hlqH, hldH, nmo, nms, ne_of_none hmv hlq, ne_of_none (s6 _ _ hmv) hld, nos, ne_of_none hov hlq, ne_of_none (s6 _ _ hov) hld, ne_of_none hsx hlq, ne_of_none (s6 _ _ hsx) hld, ne_of_none upd_same hld⟩
        have R0 : Rep K P w H _ lm lo ls lq ld (init told) := ⟨same_trans s5 s67, LM5.same s67, LO5.same s67, dn_same s67 hDN5, (ld_nats (K := K) (ns := (seenGo 0 told []).map (·.2)) upd_same).same s7, LD.new⟩
        have G0 := init_ok (go := go) c3 noGo
        have C0 : (init told).done.length + (init told).queue.length = (init told).seen.length := by simp [init]
        refine ⟨fun m σ H' => ∃ s x2 x6 x9 x10, m = pot s ∧ σ = [some (.ref a), some u, x2, some (.ref lm), some (.ref lo), some (.ref ls), x6, some (.ref lq), some (.ref ld), x9, x10, none] ∧ Rep K P w H H' lm lo ls lq ld s ∧ G go told told.length s ∧ s.done.length + s.queue.length = s.seen.length ∧
            outer go (pot s) s = outer go (pot (init told)) (init told), ⟨_, init told, _, _, _, _, rfl, rfl, R0, G0, C0, rfl⟩, ?_⟩
        rintro m σ H8 ⟨s, x2, x6, x9, x10, rfl, rfl, R8, G8, C8, O8⟩
        have hq8 := nats_ld R8.queue
        refine ⟨_, rfl, _, .inl ⟨_, SqL.of hq8, rfl⟩, ?_⟩
        cases eq : s.queue with
        | nil =>
          refine iteF (kn ?_ H8 R8.same)
          rw [eF, ← O8, outer_nil eq]
          rfl
        | cons at0 q =>
          refine iteT ⟨fun σ' H' => ∃ m', m' < pot s ∧ ∃ s x2 x6 x9 x10, m' = pot s ∧ σ' = [some (.ref a), some u, x2, some (.ref lm), some (.ref lo), some (.ref ls), x6, some (.ref lq), some (.ref ld), x9, x10, none] ∧ Rep K P w H H' lm lo ls lq ld s ∧ G go told told.length s ∧ s.done.length + s.queue.length = s.seen.length ∧
            outer go (pot s) s = outer go (pot (init told)) (init told), fun _ _ z => z, ?_⟩
          rw [eq] at hq8
          have hp1 : 1 ≤ pot s := by
            unfold pot
            rw [eq]
            simp only [List.length_cons]
            omega
          have g1 := turn_ok G8 eq
          have ek : pot s = pot (turn s at0 q) + 1 := by
            unfold pot
            rw [eq]
            show (q.length + 1) + (27 - s.seen.length) = q.length + (27 - s.seen.length) + 1
            omega
          have le27 := G8.le27
          have cq : s.done.length + (q.length + 1) = s.seen.length := by
            have := C8
            rw [eq] at this
            simpa using this
          have lm8 : s.made.length ≤ 300 := by
            have := G8.told
            rcases G8.cnt with z | ⟨z1, z2⟩
            · omega
            · rw [z2] at eq
              cases eq
          have atlt := G8.qd at0 (.inl (by rw [eq]; simp))
          -- at = queue.pop(0)
          refine ⟨_, rfl, .inl ⟨rfl, _, SqL.of hq8⟩, ⟨lq, _, 0, 0, V.int (at0 : Nat), rfl, rfl, hq8, by decide, by decide, ?_, rfl, ?_⟩⟩
          · rw [List.length_map, List.length_cons]
            show seqIndex? 0 (q.length + 1) = some 0
            unfold seqIndex?
            simp
          have gq : Grow H8 (upd H8 lq (.lst ((((at0 :: q).map fun i : Nat => V.int (i : Int))).eraseIdx 0))) := grow_lst hq8
          have R9 := rep_queue LI R8 gq (qn := q) (ld_nats upd_same)
          -- done.append(at)
          obtain ⟨dv, hdv, _⟩ := id R9.done
          refine ⟨_, rfl, .inl ⟨rfl, _, SqL.of hdv⟩, ⟨_, rfl, nil_go ?_⟩⟩
          refine app_data (d := natD at0) R9.done (.int _) (by rw [List.length_map]; show s.done.length < _; omega) (nats_firm _) rfl fun o9 hD9 gD9 => ?_
          rw [show (s.done.map natD) ++ [natD at0] = (s.done ++ [at0]).map natD from by rw [List.map_append]; rfl] at hD9
          have R10 := rep_done LI R9 gD9 hD9
          generalize hH10 : upd (upd H8 lq (.lst ((((at0 :: q).map fun i : Nat => V.int (i : Int))).eraseIdx 0))) ld o9 = H10 at R10 ⊢
          have R10' : Rep K P w H H10 lm lo ls lq ld (turn s at0 q) := R10
          clear R10 hD9 gD9 hH10
          -- steps = _steps_with(made, done, at)
          refine ⟨_, rfl, _, rfl, _, rfl, lm, ld, s.made, s.done ++ [at0], at0, rfl, R10'.made, R10'.done, G8.can, fun i hi => ?_, atlt, ?_, fun H11 lt s11 nlt hlt => ?_⟩
          · rcases List.mem_append.mp hi with hi | hi
            · exact G8.qd i (.inr hi)
            · simp only [List.mem_singleton] at hi
              rw [hi]
              exact atlt
          · rw [List.length_append]
            simp only [List.length_cons, List.length_nil]
            omega
          have R11 := rep_same s11 R10'
          obtain ⟨tv, ht1, ht2⟩ := hlt
          have neL : ∀ {l : Addr} {o : HO}, H10 l = some o → lt ≠ l := fun h => (ne_of_none h nlt).symm
          obtain ⟨mv, hmv, _⟩ := id R10'.made
          obtain ⟨ov, hov, _⟩ := id R10'.orig
          obtain ⟨qv, hqv, _⟩ := id R10'.queue
          obtain ⟨sv, hsv, _⟩ := id R10'.seen
          have ntm := neL hmv
          have nto := neL hov
          have ntq := neL hqv
          have nts := neL hsv
          have okAll := okT_steps (s := s) (a := at0) (q := q)
          generalize hts : stepsAt s.made (s.done ++ [at0]) at0 = steps at ht2 okAll
          have tvl : tv.length = steps.length := by
            have := dpAll_len ht2
            rwa [List.length_map] at this
          have eO : outer go (pot s) s = after go (pot (turn s at0 q)) (inner go steps (turn s at0 q)) := by
            rw [ek, outer_cons eq, hts]
          refine ⟨_, rfl, lt, rfl, for_sqL (fun j σ H' => ∃ s' x2 x10, σ = [some (.ref a), some u, x2, some (.ref lm), some (.ref lo), some (.ref ls), some (.int at0), some (.ref lq), some (.ref ld), some (.ref lt), x10, none] ∧ Rep K P w H H' lm lo ls lq ld s' ∧ G go told told.length s' ∧ s'.done.length + s'.queue.length = s'.seen.length ∧
              Later (turn s at0 q) s' ∧ H' lt = some (.lst tv) ∧ DpAll K H' tv (steps.map stpD) ∧ inner go (steps.drop j) s' = inner go steps (turn s at0 q)) (SqL.of ht1)
            ⟨turn s at0 q, _, _, rfl, R11, g1, by show (s.done ++ [at0]).length + q.length = s.seen.length; rw [List.length_append]; simp only [List.length_cons, List.length_nil]; omega, Later.refl _, ht1, ht2, rfl⟩
            (fun j σ H' _ p => by
              obtain ⟨s', _, _, _, _, _, _, _, h, _⟩ := p
              exact SqL.of h) (fun j x σ H12 hx p => ?_) (fun σ H12 p => ?_)⟩
          · obtain ⟨s', x2, x10, rfl, R12, G12, C12, L12, hlt12, dlt12, I12⟩ := p
            obtain ⟨d, hd, dx⟩ := dpAll_get dlt12 hx
            rw [List.getElem?_map] at hd
            obtain ⟨st, hst, rfl⟩ := Option.map_eq_some_iff.mp hd
            obtain ⟨ta, rfl, q4⟩ := stp_open dx
            have jl : j < steps.length := (List.getElem?_eq_some_iff.mp hst).1
            have edrop : steps.drop j = st :: steps.drop (j + 1) := by
              rw [List.drop_eq_getElem_cons jl]
              congr 1
              rw [List.getElem?_eq_getElem jl] at hst
              exact Option.some.inj hst
            rw [edrop] at I12
            have okst := okT_later g1 L12 (okAll st (List.mem_of_getElem? hst))
            obtain ⟨k1, k2, k3⟩ := okst
            have l1 := G12.qd _ (.inr k1)
            have l2 := G12.qd _ (.inr k2)
            have le27' := G12.le27
            have lm12 : s'.made.length ≤ 300 := by
              have := G12.told
              rcases G12.cnt with z | ⟨z1, z2⟩
              · omega
              · have : s'.done = [] := by
                  rw [z1, z2] at C12
                  exact List.length_eq_zero_iff.mp (by simpa using C12)
                rw [this] at k1
                cases k1
            obtain ⟨m1v, u1, n1, n2, n3⟩ := made_at R12.made l1
            obtain ⟨m2v, u2, n4, n5, n6⟩ := made_at R12.made l2
            -- premise = stepped(..)
            refine ⟨_, rfl, ixv rfl (.inr q4) rfl (ix_at (.inl n1) n2 ⟨_, rfl, ixv rfl (.inr q4) rfl (ix_at (.inl n4) n5 (ixv rfl (.inr q4) rfl ⟨u1, u2, _, _, st.2.2, rfl, n3, n6, G12.can _ (gp_mem l1), G12.can _ (gp_mem l2), fun H13 t s13 nt dt => ?_⟩))⟩)⟩
            have R13 := rep_same s13 R12
            have dlt13 := dpAll_mono s13 _ _ dlt12
            have hlt13 := s13 _ _ hlt12
            have ep : stepP (gp s'.made st.1) (gp s'.made st.2.1) st.2.2 = newP s' st := rfl
            rw [ep] at dt
            have c3n : can3 (newP s' st) := can3_step (G12.can _ (gp_mem l1)) (G12.can _ (gp_mem l2))
            have eI : inner go (st :: steps.drop (j + 1)) s' = (if old s' st = true then inner go (steps.drop (j + 1)) s' else if withinB (newP s' st) go = true then (put s' st, true) else inner go (steps.drop (j + 1)) (put s' st)) := rfl
            rw [eI] at I12
            -- if premise in seen or has_both(premise)
            refine ⟨_, rfl, _, rfl, t, ls, pmK (newP s' st), seenK s'.seen, rfl, rfl, key_dp dt, pmK_depth _, R13.seen, _, rfl, ?_⟩
            rw [seenK_has]
            have cont : ∀ H', Same H13 H' → old s' st = true → ∃ s'' y2 y10, ([some (.ref a), some u, some (.ref t), some (.ref lm), some (.ref lo), some (.ref ls), some (.int at0), some (.ref lq), some (.ref ld), some (.ref lt), some (.ref ta), none] : L2.St) = [some (.ref a), some u, y2, some (.ref lm), some (.ref lo), some (.ref ls), some (.int at0), some (.ref lq), some (.ref ld), some (.ref lt), y10, none] ∧ Rep K P w H H' lm lo ls lq ld s'' ∧ G go told told.length s'' ∧ s''.done.length + s''.queue.length = s''.seen.length ∧
              Later (turn s at0 q) s'' ∧ H' lt = some (.lst tv) ∧ DpAll K H' tv (steps.map stpD) ∧ inner go (steps.drop (j + 1)) s'' = inner go steps (turn s at0 q) := fun H' sH ho => by
              rw [if_pos ho] at I12
              exact ⟨s', _, _, rfl, rep_same sH R13, G12, C12, L12, sH _ _ hlt13, dpAll_mono sH _ _ dlt13, I12⟩
            refine ite2 (fun c => ?_) (fun c => ?_)
            · have c' : inS s'.seen (newP s' st) = true := c
              exact cont _ (same_refl _) (by unfold old; rw [c']; rfl)
            · have c' : ¬ inS s'.seen (newP s' st) = true := c
              refine ⟨_, rfl, .ref t, newP s' st, rfl, dt, c3n, fun H14 s14 => ⟨_, rfl, ite2 (fun c2 => ?_) (fun c2 => ?_)⟩⟩
              · exact cont _ s14 (by unfold old; rw [c2]; simp)
              · have ho : old s' st = false := by
                  unfold old
                  rw [Bool.eq_false_iff.mpr c', Bool.eq_false_iff.mpr c2]
                  rfl
                rw [if_neg (by rw [ho]; exact Bool.false_ne_true)] at I12
                have R14 := rep_same s14 R13
                have hlt14 := s14 _ _ hlt13
                have dlt14 := dpAll_mono s14 _ _ dlt13
                have dt14 := dp_mono s14 _ _ dt
                obtain ⟨mv14, hmv14, dm14⟩ := id R14.made
                have mvl : mv14.length = s'.made.length := by
                  have := dpAll_len dm14
                  rwa [List.length_map] at this
                have big : 100000 ≤ sizeLine := by decide
                -- seen[premise] = len(made)
                refine ⟨_, rfl, lm, mv14, rfl, .inl (SqL.of hmv14), _, rfl, _, rfl, ls, t, pmK (newP s' st), seenK s'.seen, rfl, rfl, key_dp dt14, pmK_depth _, R14.seen, by rw [seenK_len]; omega, fun o15 hv gv => ?_⟩
                rw [mvl, seenK_put (Bool.eq_false_iff.mpr c')] at hv
                have R15 := rep_seen LI R14 gv hv
                have hlt15 : upd H14 ls o15 lt = some (.lst tv) := by
                  rw [upd_ne nts]
                  exact hlt14
                have dlt15 := dpAll_grow gv _ _ (stps_firm _) dlt14
                have dt15 := dp_grow gv _ _ (pm_firm _) dt14
                have dst15 : Dp K (upd H14 ls o15) (.ref ta) (stpD st) := dp_grow (grow_same (same_trans s13 s14) |>.trans gv) _ _ (stp_firm _) dx
                obtain ⟨mv15, hmv15, dm15⟩ := id R15.made
                have mvl15 : mv15.length = s'.made.length := by
                  have := dpAll_len dm15
                  rwa [List.length_map] at this
                obtain ⟨qv15, hqv15, _⟩ := id R15.queue
                -- queue.append(len(made))
                refine ⟨_, rfl, .inl ⟨rfl, _, SqL.of hqv15⟩, ⟨_, rfl, lm, mv15, rfl, .inl (SqL.of hmv15), nil_go ?_⟩⟩
                rw [mvl15]
                refine app_data (d := natD s'.made.length) R15.queue (.int _) (by rw [List.length_map]; show s'.queue.length < _; omega) (nats_firm _) rfl fun o16 hq16 g16 => ?_
                rw [show (s'.queue.map natD) ++ [natD s'.made.length] = (s'.queue ++ [s'.made.length]).map natD from by rw [List.map_append]; rfl] at hq16
                have R16 := rep_queue LI R15 g16 hq16
                have hlt16 : upd (upd H14 ls o15) lq o16 lt = some (.lst tv) := by
                  rw [upd_ne ntq]
                  exact hlt15
                have dlt16 := dpAll_grow g16 _ _ (stps_firm _) dlt15
                have dt16 := dp_grow g16 _ _ (pm_firm _) dt15
                have dst16 := dp_grow g16 _ _ (stp_firm _) dst15
                obtain ⟨mv16, hmv16, _⟩ := id R16.made
                -- made.append(premise)
                refine ⟨_, rfl, .inl ⟨rfl, _, SqL.of hmv16⟩, ⟨_, rfl, nil_go ?_⟩⟩
                refine app_data (d := pmD (newP s' st)) R16.made dt16 (by rw [List.length_map]; show s'.made.length < _; omega) (pms_firm _) (pm_firm _) fun o17 hm17 g17 => ?_
                rw [show (s'.made.map pmD) ++ [pmD (newP s' st)] = (s'.made ++ [newP s' st]).map pmD from by rw [List.map_append]; rfl] at hm17
                have R17 := rep_made LI R16 g17 hm17
                have hlt17 : upd (upd (upd H14 ls o15) lq o16) lm o17 lt = some (.lst tv) := by
                  rw [upd_ne ntm]
                  exact hlt16
                have dlt17 := dpAll_grow g17 _ _ (stps_firm _) dlt16
                have dt17 := dp_grow g17 _ _ (pm_firm _) dt16
                have dst17 := dp_grow g17 _ _ (stp_firm _) dst16
                obtain ⟨ov17, hov17, _⟩ := id R17.orig
                -- origins.append(step)
                refine ⟨_, rfl, .inl ⟨rfl, _, SqL.of hov17⟩, ⟨_, rfl, nil_go ?_⟩⟩
                refine app_data (d := orgD (some st)) R17.orig dst17 (by rw [List.length_map]; show s'.orig.length < _; have := G12.len; omega) (orgs_firm _) (org_firm _) fun o18 ho18 g18 => ?_
                rw [show (s'.orig.map orgD) ++ [orgD (some st)] = (s'.orig ++ [some st]).map orgD from by rw [List.map_append]; rfl] at ho18
                have R18 := rep_orig LI R17 g18 ho18
                have hlt18 : upd (upd (upd (upd H14 ls o15) lq o16) lm o17) lo o18 lt = some (.lst tv) := by
                  rw [upd_ne nto]
                  exact hlt17
                have dlt18 := dpAll_grow g18 _ _ (stps_firm _) dlt17
                have dt18 := dp_grow g18 _ _ (pm_firm _) dt17
                generalize upd (upd (upd (upd H14 ls o15) lq o16) lm o17) lo o18 = H18 at R18 hlt18 dlt18 dt18 ⊢
                have R18' : Rep K P w H H18 lm lo ls lq ld (put s' st) := R18
                clear R18 ho18 g18
                -- if is_within(premise, goal)
                refine ⟨_, rfl, _, rfl, .ref t, u, newP s' st, go, rfl, dt18, dp_mono R18'.same _ _ hgo, c3n, fun H19 s19 => ⟨_, rfl, ite2 (fun c4 => ?_) (fun c4 => ?_)⟩⟩
                · have wn := won_put G12 ⟨k1, k2, k3⟩ ho c4
                  rw [if_pos c4] at I12
                  have R19 := rep_same s19 R18'
                  have eF2 : foundG go told = some (useS (put s' st).orig told.length) := by
                    rw [eF, ← O8, eO, ← I12]
                    rfl
                  have wl := wn.len
                  have wt := wn.told
                  have wp := wn.top
                  have s19' := R19.same
                  refine ⟨_, rfl, _, rfl, a, us, rfl, .inr (grow_sqT (grow_same s19') hq), lo, (put s' st).orig, told.length, ?_, R19.orig, ⟨by omega, by omega, fun i h1 h2 => ?_⟩, fun H20 tt s20 n20 d20 => ks _ eF2 _ tt (same_trans s19' s20) (s19'.free n20) d20⟩
                  · rw [tl]
                    rfl
                  · obtain ⟨z, z1, z2, z3, _⟩ := wn.org i h1 (by omega)
                    exact ⟨z, z1, z2, z3⟩
                · rw [if_neg c4] at I12
                  have gp2 := put_ok G12 ⟨k1, k2, k3⟩ ho (Bool.eq_false_iff.mpr c4)
                  refine ⟨put s' st, _, _, rfl, rep_same s19 R18', gp2, ?_, L12.trans (later_put gp2), s19 _ _ hlt18, dpAll_mono s19 _ _ dlt18, I12⟩
                  show s'.done.length + (s'.queue ++ [s'.made.length]).length = (s'.seen ++ [(newP s' st, s'.made.length)]).length
                  rw [List.length_append, List.length_append]
                  simp only [List.length_cons, List.length_nil]
                  omega
          · obtain ⟨s', x2, x10, rfl, R12, G12, C12, L12, hlt12, dlt12, I12⟩ := p
            rw [tvl, List.drop_length] at I12
            have I12' : (s', false) = inner go steps (turn s at0 q) := I12
            refine ⟨pot s', ?_, s', _, _, _, _, rfl, rfl, R12, G12, C12, ?_⟩
            · rw [L12.pot]
              omega
            · rw [← O8, eO, ← I12', L12.pot]
              rfl
end
end K07

set_option Elab.async false
set_option linter.all false
set_option pp.maxSteps 800
set_option pp.deepTerms false
set_option maxRecDepth 100000
set_option maxHeartbeats 8000000
namespace K07
open PySem PySem.Spec PyProof.Rows L2 Say
abbrev CP (K : PySem.W.Frag) : Addr := He.ga K "InvalidPremises"
def needGo (n : Int) : Nat → List PyData → Int ⊕ List Pm
  | _, [] => .inr []
  | i, d :: r => match premD n d with
    | none => .inl (i : Int)
    | some p => match needGo n (i + 1) r with
      | .inl k => .inl k
      | .inr ps => .inr (p :: ps)
/-- what need_premises does with data: the number of the first that is none, or the premises -/
def needD (n : Int) (d : PyData) : Int ⊕ List Pm := match itemsD d with
  | none => .inl (-1)
  | some ds => needGo n 0 ds
def fewAll (d : PyData) : Prop := ∀ ds, itemsD d = some ds → (∀ x ∈ ds, fewD x) ∧ ds.length ≤ 200
def spNeed (K : PySem.W.Frag) : Sp := fun vs H Q E => ∃ v d n, vs = [v, .int n] ∧ Dp K H v d ∧ fewAll d ∧
  (∀ k, needD n d = .inl k → ∀ dd H', Same H H' → H' dd = some (.xd [("at", .int k)]) → E (.ref (CP K)) (some dd) H') ∧
  ∀ ps, needD n d = .inr ps → ∀ H' t, Same H H' → H t = none → Dp K H' (.ref t) (.tuple (ps.map pmD)) → Q (.ref t) H'
theorem prem_can {n : Int} (hn : n ≤ 3) {d : PyData} {p : Pm} (h : premD n d = some p) : can3 p := by
  have side : ∀ {x : PyData} {l : List Int}, sideD n x = some l → ∀ k ∈ ordI l, 1 ≤ k ∧ k ≤ 3 := by
    intro x l hl k hk
    rw [mem_ordI] at hk
    unfold sideD at hl
    cases e : itemsD x with
    | none =>
      rw [e] at hl
      cases hl
    | some es =>
      rw [e] at hl
      replace hl : (if es.all (okP n) = true then some (es.filterMap intD) else none) = some l := hl
      split at hl
      · rename_i z
        cases hl
        obtain ⟨y, hy, ey⟩ := List.mem_filterMap.mp hk
        have := List.all_eq_true.mp z y hy
        cases y with
        | int i =>
          cases ey
          simp only [okP, Bool.and_eq_true, decide_eq_true_eq] at this
          omega
        | _ => cases ey
      · cases hl
  cases e : itemsD d with
  | none =>
    unfold premD at h
    rw [e] at h
    cases h
  | some ds =>
    obtain ⟨a, b, l, r, rfl, h1, h2, rfl⟩ := prem_items e h
    exact ⟨⟨srt_ordI, side h1⟩, srt_ordI, side h2⟩
theorem needGo_can {n : Int} (hn : n ≤ 3) : ∀ (ds : List PyData) (i : Nat) (ps : List Pm), needGo n i ds = .inr ps → ∀ p ∈ ps, can3 p
  | [], _, ps, h => by
    cases h
    intro p hp
    cases hp
  | d :: r, i, ps, h => by
    unfold needGo at h
    cases e : premD n d with
    | none =>
      rw [e] at h
      cases h
    | some p =>
      rw [e] at h
      cases e2 : needGo n (i + 1) r with
      | inl k =>
        rw [e2] at h
        cases h
      | inr qs =>
        rw [e2] at h
        cases h
        intro q hq
        rcases List.mem_cons.mp hq with rfl | hq
        · exact prem_can hn e
        · exact needGo_can hn r (i + 1) qs e2 q hq
theorem needGo_len {n : Int} : ∀ (ds : List PyData) (i : Nat) (ps : List Pm), needGo n i ds = .inr ps → ps.length = ds.length
  | [], _, ps, h => by
    cases h
    rfl
  | d :: r, i, ps, h => by
    unfold needGo at h
    cases e : premD n d with
    | none =>
      rw [e] at h
      cases h
    | some p =>
      rw [e] at h
      cases e2 : needGo n (i + 1) r with
      | inl k =>
        rw [e2] at h
        cases h
      | inr qs =>
        rw [e2] at h
        cases h
        rw [List.length_cons, List.length_cons, needGo_len r (i + 1) qs e2]
/-- joined to what is formed so far -/
def withPs (acc : List Pm) : Int ⊕ List Pm → Int ⊕ List Pm
  | .inl k => .inl k
  | .inr ps => .inr (acc ++ ps)
section
variable {P : Program} {w : World} {K : PySem.W.Frag} {mg : Str → Option Value} {base : Heap}
theorem passX {X : Cx} {CX : CXT} {E : XK} (h : Passes CX X E) : Passes CX X E := h
theorem scIni : FnScope ["self", "at"] ["self", "at"] (defScope (inClass (top 2) 0)) := ⟨rfl, rfl, rfl, by decide +kernel, rfl, by decide +kernel, by decide +kernel⟩
theorem ok_ini (T : Tx K mg) : ∃ fd, FnOk P w K mg base CX0 1 (He.ma K (CP K) "__init__") fd ["self", "at"] (spIni "at" (CP K)) ∧ Binds K fd ["self", "at"] [] := by
  obtain ⟨fd, F⟩ := T.F_InvalidPremises___init__
  refine ⟨fd, ?_, F.bindsN fun _ _ _ _ _ _ us hl => match us, hl with | [_, _], _ => rfl⟩
  refine F.ok scIni (fun vs H Q E h => ?_) (fun cdv A ou s H vs Q E hr h => ?_)
  · obtain ⟨a, y, rfl, _⟩ := h
    rfl
  · obtain ⟨a, y, rfl, ha, k⟩ := h
    exact ⟨_, PSs.nox (pss_one (ps_est (pv 0) (pv 1))), _, rfl, _, rfl, a, CP K, rfl, T.E_InvalidPremises, T.n_InvalidPremises_at, .inl ⟨ha, fun dx n ne => k dx _ n ne (ini_end ne)⟩⟩
def NNeed : List Str := ["premises", "places", "formed", "at", "value", "premise"]
theorem scNeed : FnScope NNeed ["premises", "places"] (defScope (top 11)) := ⟨rfl, rfl, rfl, by decide +kernel, rfl, by decide +kernel, by decide +kernel⟩
theorem ok_need (T : Tx K mg) : Fd P w K mg base (L2.CX P w) 4 "need_premises" ["premises", "places"] (spNeed K) := by
  obtain ⟨fdI, GI, bI⟩ := ok_ini (P := P) (w := w) (base := base) T
  obtain ⟨fd, F⟩ := T.F_need_premises
  refine ⟨fd, ?_, F.bindsN fun _ _ _ _ _ _ us hl => match us, hl with | [_, _], _ => rfl, F.kp⟩
  refine F.ok scNeed (fun vs H Q E h => ?_) (fun cdv A ou s H vs Q E hr h => ?_)
  · obtain ⟨v, d, n, rfl, _⟩ := h
    rfl
  · obtain ⟨v, d, n, rfl, hd, few, ke, kq⟩ := h
    refine ⟨_, pss_cons (ps_if (pt_not (pt_val (pe_fdD (ok_seq T) (hr.mono (by decide)) rfl T.g_is_sequence pass0 (pa_cons (pv 0) pa_nil))))
        (pss_one (ps_raise rfl (takes_of rfl rfl rfl rfl) (pmk_e T.E_InvalidPremises T.I_InvalidPremises GI (hr.mono (by decide)) bI .nil pass0 T.c_InvalidPremises (pa_cons (pe_un un_neg pe_int) pa_nil)))) pss_nil)
      (pss_cons (ps_set (i := 2) scNeed.nd rfl (Or.inl rfl) (pe_lst pa_nil))
      (pss_cons (ps_for (passes_of rfl) rfl (pi_enumSq (by rfl) T.b_enumerate (pa_cons (pv 0) pa_nil)) (pg_tup (by rfl) (pgs_cons (pg_name (i := 3) scNeed.nd rfl (Or.inl rfl)) (pgs_cons (pg_name (i := 4) scNeed.nd rfl (Or.inl rfl)) pgs_nil)))
        (pss_cons (ps_set (i := 5) scNeed.nd rfl (Or.inl rfl) (pe_fd (ok_formed T) hr rfl T.g_formed_premise pass0 (pa_cons (pv 4) (pa_cons (pv 1) pa_nil))))
        (pss_cons (ps_if (pt_cmpR op_isN (pv 5) pe_non (nomark _)) (pss_one (ps_raise rfl (takes_of rfl rfl rfl rfl) (pmk_e T.E_InvalidPremises T.I_InvalidPremises GI (hr.mono (by decide)) bI .nil pass0 T.c_InvalidPremises (pa_cons (pv 3) pa_nil)))) pss_nil)
          (pss_one (ps_expr (pe_bm PySem.F.plainAttrs_list PySem.F.slot_list_append PySem.F.type_list_append mt_append (pv 2) (pa_cons (pv 5) pa_nil)))))))
      (pss_one (ps_ret (pe_callTy call_tuple_of (by rfl) T.b_tuple (by decide +kernel) (pa_cons (pv 2) pa_nil)))))), ?_⟩
    cases e : itemsD d with
    | none =>
      have en : needD n d = .inl (-1) := by unfold needD; rw [e]
      refine ⟨_, rfl, v, d, rfl, hd, _, rfl, ?_⟩
      rw [seqB_items, e]
      refine iteT ⟨_, rfl, ini_go fun dd H' s1 e1 => ke _ en dd H' s1 e1⟩
    | some ds =>
      have en : needD n d = needGo n 0 ds := by unfold needD; rw [e]
      obtain ⟨a, vs, rfl, hq, ha⟩ := dp_items hd e
      obtain ⟨fw, d200⟩ := few ds e
      have vl := dpAll_len ha
      have big : 100000 ≤ sizeLine := by decide
      refine ⟨_, rfl, .ref a, d, rfl, hd, _, rfl, ?_⟩
      rw [seqB_items, e]
      refine iteF ⟨(by show 0 ≤ sizeLine; decide), fun l hl => ?_⟩
      refine ⟨_, rfl, a, rfl, for_enS (H0 := H) (fun i σ H' => (∃ x3 x4 x5, σ = [some (.ref a), some (.int n), some (.ref l), x3, x4, x5]) ∧ Same H H' ∧ ∃ acc : List Pm, LD K H' l (acc.map pmD) ∧ acc.length = i ∧ withPs acc (needGo n i (ds.drop i)) = needGo n 0 ds) hq
        ⟨⟨_, _, _, rfl⟩, same_new hl, [], LD.new, rfl, by show withPs [] (needGo n 0 ds) = _; cases needGo n 0 ds <;> rfl⟩ (fun i σ H' _ p => p.2.1) (fun i x σ H' Tt hx p hT => ?_) (fun σ H' p => ?_)⟩
      · obtain ⟨⟨x3, x4, x5, rfl⟩, s1, acc, hL, hlen, hN⟩ := p
        obtain ⟨dx, hdx, px⟩ := dpAll_get ha hx
        have il : i < ds.length := (List.getElem?_eq_some_iff.mp hdx).1
        have edrop : ds.drop i = dx :: ds.drop (i + 1) := by
          rw [List.drop_eq_getElem_cons il]
          congr 1
          rw [List.getElem?_eq_getElem il] at hdx
          exact Option.some.inj hdx
        rw [edrop] at hN
        have s2 := same_trans s1 (same_new (o := .tup [.int (i : Nat), x]) hT)
        have hL2 := hL.same (same_new (o := .tup [.int (i : Nat), x]) hT)
        refine ⟨Tt, _, rfl, SqT.of upd_same, rfl, _, _, rfl, _, _, rfl, rfl, ?_⟩
        refine ⟨_, rfl, _, rfl, x, dx, n, rfl, dp_mono s2 _ _ px, fw dx (List.mem_of_getElem? hdx), fun en2 H3 s3 => ?_, fun p ep H3 u s3 du => ?_⟩
        · refine ⟨_, rfl, rfl, _, rfl, iteT ⟨_, rfl, ini_go fun dd H4 s4 e4 => ke _ ?_ dd H4 (same_trans s2 (same_trans s3 s4)) e4⟩⟩
          rw [en, ← hN]
          unfold needGo
          rw [en2]
          rfl
        · obtain ⟨t, b1, b2, rfl, _⟩ := pm_open du
          refine ⟨_, rfl, rfl, _, rfl, iteF ?_⟩
          have hL3 := hL2.same s3
          obtain ⟨lv, hlv, _⟩ := id hL3
          refine ⟨_, rfl, .inl ⟨rfl, _, SqL.of hlv⟩, ⟨_, rfl, nil_go ?_⟩⟩
          refine app_data (d := pmD p) hL3 du (by rw [List.length_map]; omega) (pms_firm _) (pm_firm _) fun o ho go => ?_
          refine ⟨⟨_, _, _, rfl⟩, same_upd (same_trans s2 s3) hl, acc ++ [p], by rw [List.map_append]; exact ho, by rw [List.length_append, hlen]; rfl, ?_⟩
          rw [← hN]
          conv => rhs; unfold needGo
          rw [ep]
          cases needGo n (i + 1) (ds.drop (i + 1)) with
          | inl k => rfl
          | inr ps =>
            show Sum.inr (acc ++ [p] ++ ps) = Sum.inr (acc ++ (p :: ps))
            rw [List.append_assoc]
            rfl
      · obtain ⟨⟨x3, x4, x5, rfl⟩, s1, acc, hL, hlen, hN⟩ := p
        rw [vl, List.drop_length] at hN
        obtain ⟨lv, hlv, dlv⟩ := hL
        refine ⟨_, rfl, l, lv, rfl, .inl ⟨SqL.of hlv, fun t ht => ?_⟩⟩
        refine kq acc ?_ _ t (same_trans s1 (same_new ht)) (s1.free ht) (.tup (SqT.of upd_same) (dpAll_mono (same_new ht) _ _ dlv))
        rw [en, ← hN]
        show Sum.inr (acc ++ []) = Sum.inr acc
        rw [List.append_nil]
end
end K07

set_option Elab.async false
set_option linter.all false
set_option pp.maxSteps 800
set_option pp.deepTerms false
set_option maxRecDepth 100000
set_option maxHeartbeats 8000000
namespace K07
open PySem PySem.Spec PyProof.Rows L2 Say
/-! ### sheets compared as data -/
theorem lay_ints : ∀ ns : List Int, PyData.canLayAll0 (ns.map PyData.int) = true
  | [] => rfl
  | n :: ns => by
    show (PyData.canLay0 (.int n) && PyData.canLayAll0 (ns.map PyData.int)) = true
    rw [lay_ints ns]
    rfl
theorem dep_ints : ∀ ns : List Int, PyData.depthAll (ns.map PyData.int) = 0
  | [] => rfl
  | n :: ns => by
    show max (PyData.depth (.int n)) (PyData.depthAll (ns.map PyData.int)) = 0
    rw [dep_ints ns]
    rfl
theorem pm_lay (p : Pm) : (pmD p).canLay0 = true := by
  show (PyData.canLayAll0 (p.1.map PyData.int) && (PyData.canLayAll0 (p.2.map PyData.int) && true)) = true
  rw [lay_ints, lay_ints]
  rfl
theorem pm_dep (p : Pm) : (pmD p).depth = 2 := by
  show max (PyData.depthAll (p.1.map PyData.int) + 1) (max (PyData.depthAll (p.2.map PyData.int) + 1) 0) + 1 = 2
  rw [dep_ints, dep_ints]
  rfl
theorem pms_lay : ∀ m : List Pm, PyData.canLayAll0 (m.map pmD) = true
  | [] => rfl
  | p :: m => by
    show (PyData.canLay0 (pmD p) && PyData.canLayAll0 (m.map pmD)) = true
    rw [pm_lay, pms_lay m]
    rfl
theorem pms_dep : ∀ m : List Pm, PyData.depthAll (m.map pmD) ≤ 2
  | [] => Nat.zero_le _
  | p :: m => by
    show max (PyData.depth (pmD p)) (PyData.depthAll (m.map pmD)) ≤ 2
    rw [pm_dep]
    have := pms_dep m
    omega
theorem pm_shaped (p : Pm) : SeqAt.shaped (pmD p) = true := by
  unfold SeqAt.shaped
  rw [pm_lay, pm_dep]
  rfl
theorem pms_shaped (m : List Pm) : SeqAt.shaped (.list (m.map pmD)) = true := by
  unfold SeqAt.shaped
  have h1 : PyData.canLay0 (.list (m.map pmD)) = true := pms_lay m
  have h2 : PyData.depth (.list (m.map pmD)) ≤ 64 := by
    show PyData.depthAll (m.map pmD) + 1 ≤ 64
    have := pms_dep m
    omega
  rw [h1, decide_eq_true h2]
  rfl
theorem ints_eqv : ∀ ns ms : List Int, PyData.eqvAll (ns.map PyData.int) (ms.map PyData.int) = decide (ns = ms)
  | [], [] => rfl
  | [], m :: ms => rfl
  | n :: ns, [] => rfl
  | n :: ns, m :: ms => by
    show ((n == m) && PyData.eqvAll (ns.map PyData.int) (ms.map PyData.int)) = _
    rw [ints_eqv ns ms]
    by_cases h1 : n = m <;> by_cases h2 : ns = ms <;> simp [h1, h2]
theorem room65 {k : Nat} {A : Around} (h : Room k A) : A.units + 65 < cLine := by
  have := h.un
  omega
theorem eqv_pm (p q : Pm) : PyData.eqv (pmD p) (pmD q) = decide (p = q) := by
  show (PyData.eqvAll (p.1.map PyData.int) (q.1.map PyData.int) && (PyData.eqvAll (p.2.map PyData.int) (q.2.map PyData.int) && true)) = _
  rw [ints_eqv, ints_eqv]
  obtain ⟨a, b⟩ := p
  obtain ⟨c, d⟩ := q
  by_cases h1 : a = c <;> by_cases h2 : b = d <;> simp [h1, h2]
theorem any_pm (fs : List Pm) (p : Pm) : ((fs.map pmD).any fun z => PyData.eqv z (pmD p)) = decide (p ∈ fs) := by
  induction fs with
  | nil => rfl
  | cons q fs ih =>
    rw [List.map_cons, List.any_cons, ih, eqv_pm]
    by_cases h : q = p
    · subst h
      simp
    · simp [h, Ne.symm h]
/-! ### steps handed in, any data -/
def stpOf (m : Nat) : PyData → Option Stp
  | .tuple [.int a, .int b, .int x] => if 0 ≤ a ∧ a < m ∧ 0 ≤ b ∧ b < m ∧ 0 ≤ x then some (a.toNat, b.toNat, x) else none
  | _ => none
def walkD : List PyData → List Pm → Option (List Pm)
  | [], fs => some fs
  | d :: r, fs => match stpOf fs.length d with
    | none => none
    | some t => if canB (gp fs t.1) (gp fs t.2.1) t.2.2 = true then walkD r (fs ++ [stepP (gp fs t.1) (gp fs t.2.1) t.2.2]) else none
def broughtD (told : List Pm) : PyData → Option (List Pm)
  | .tuple ds => walkD ds told
  | _ => none
def fewT (d : PyData) : Prop := ∀ ds, d = .tuple ds → ds.length ≤ 200
def spBrought (K : PySem.W.Frag) : Sp := fun vs H Q _ => ∃ (v u : V) (told : List Pm) (d : PyData), vs = [v, u] ∧ (∃ a us, v = .ref a ∧ SqT K H a us ∧ DpAll K H us (told.map pmD)) ∧ Dp K H u d ∧ fewT d ∧ (∀ p ∈ told, can3 p) ∧ told.length ≤ 200 ∧
  (broughtD told d = none → ∀ H', Same H H' → Q .non H') ∧ ∀ fs, broughtD told d = some fs → ∀ H' t, Same H H' → H t = none → LD K H' t (fs.map pmD) → Q (.ref t) H'
def lenD : PyData → Option Nat
  | .tuple ds => some ds.length
  | _ => none
theorem stpOf_short {m : Nat} {ds : List PyData} (h : ds.length ≠ 3) : stpOf m (.tuple ds) = none := by
  unfold stpOf
  split
  · rename_i a b x e
    cases e
    exact absurd rfl h
  · rfl
theorem stpOf_three {m : Nat} {d1 d2 d3 : PyData} : stpOf m (.tuple [d1, d2, d3]) = if belowB d1 m = true ∧ belowB d2 m = true ∧ numB d3 = true then (match d1, d2, d3 with
    | .int a, .int b, .int x => some (a.toNat, b.toNat, x)
    | _, _, _ => none) else none := by
  cases d1 with
  | int a =>
    cases d2 with
    | int b =>
      cases d3 with
      | int x =>
        unfold stpOf
        simp only [belowB, numB, Bool.and_eq_true, decide_eq_true_eq]
        by_cases h : 0 ≤ a ∧ a < (m : Int) ∧ 0 ≤ b ∧ b < (m : Int) ∧ 0 ≤ x
        · rw [if_pos h, if_pos ⟨⟨h.1, h.2.1⟩, ⟨h.2.2.1, h.2.2.2.1⟩, h.2.2.2.2⟩]
        · rw [if_neg h, if_neg (fun z => h ⟨z.1.1, z.1.2, z.2.1.1, z.2.1.2, z.2.2⟩)]
      | _ => rw [if_neg (fun z => by cases z.2.2)]; rfl
    | _ => rw [if_neg (fun z => by cases z.2.1)]; rfl
  | _ => rw [if_neg (fun z => by cases z.1)]; rfl
theorem dp_three {K : PySem.W.Frag} {H : Hp} : ∀ {vs : List V} {ds : List PyData}, DpAll K H vs ds → vs.length = 3 → ∃ x y z u v w, ds = [x, y, z] ∧ vs = [u, v, w] ∧ Dp K H u x ∧ Dp K H v y ∧ Dp K H w z
  | _, _, .nil, e => by cases e
  | _, _, .cons _ .nil, e => by cases e
  | _, _, .cons _ (.cons _ .nil), e => by cases e
  | _, _, .cons h (.cons k (.cons l .nil)), _ => ⟨_, _, _, _, _, _, rfl, rfl, h, k, l⟩
  | _, _, .cons _ (.cons _ (.cons _ (.cons _ _))), e => by simp at e
section
variable {P : Program} {w : World} {K : PySem.W.Frag} {mg : Str → Option Value} {base : Heap}
def NBrought : List Str := ["told", "value", "made", "step", "one", "other", "place"]
theorem scBrought : FnScope NBrought ["told", "value"] (defScope (top 20)) := ⟨rfl, rfl, rfl, by decide +kernel, rfl, by decide +kernel, by decide +kernel⟩
theorem ok_brought (T : Tx K mg) : Fd P w K mg base CX0 3 "brought" ["told", "value"] (spBrought K) := by
  obtain ⟨fd, F⟩ := T.F_brought
  refine ⟨fd, ?_, F.bindsN fun _ _ _ _ _ _ us hl => match us, hl with | [_, _], _ => rfl, F.kp⟩
  refine F.ok scBrought (fun vs H Q E h => ?_) (fun cdv A ou s H vs Q E hr h => ?_)
  · obtain ⟨v, u, told, d, rfl, _⟩ := h
    rfl
  · obtain ⟨v, u, told, d, rfl, ⟨a, us, rfl, hq, hu⟩, hd, few, c3, t200, kn, ks⟩ := h
    refine ⟨_, PSs.nox (pss_cons (ps_if (pt_not (pt_val (pe_isi (T := "tuple") (pv 1) T.b_isinstance T.b_tuple (by decide +kernel)))) (pss_one (ps_ret pe_non)) pss_nil)
      (pss_cons (ps_set (i := 2) scBrought.nd rfl (Or.inl rfl) (pe_callTy call_list_of (by rfl) T.b_list (by decide +kernel) (pa_cons (pv 0) pa_nil)))
      (pss_cons (ps_for PassesOwn.never rfl (pi_sq (pv 1)) (pg_name (i := 3) scBrought.nd rfl (Or.inl rfl))
        (pss_cons (ps_if (PW.pt (pw_or (pt_not (pt_val (pe_isi (T := "tuple") (pv 3) T.b_isinstance T.b_tuple (by decide +kernel)))) (pw_or1 (pt_cmpR op_ne (pe_callB call_len_seq (by rfl) T.b_len PySem.boot_len (pa_cons (pv 3) pa_nil)) pe_int (nomark _))))) (pss_one (ps_ret pe_non)) pss_nil)
        (pss_cons (ps_asg (pv 3) (pg_tup (by rfl) (pgs_cons (pg_name (i := 4) scBrought.nd rfl (Or.inl rfl)) (pgs_cons (pg_name (i := 5) scBrought.nd rfl (Or.inl rfl)) (pgs_cons (pg_name (i := 6) scBrought.nd rfl (Or.inl rfl)) pgs_nil)))))
        (pss_cons (ps_if (PW.pt (pw_or (pt_not (pt_val (pe_fd (ok_below T) (hr.mono (by decide)) rfl T.g_is_number_below pass0 (pa_cons (pv 4) (pa_cons (pe_callB call_len_seq (by rfl) T.b_len PySem.boot_len (pa_cons (pv 2) pa_nil)) pa_nil)))))
            (pw_or (pt_not (pt_val (pe_fd (ok_below T) (hr.mono (by decide)) rfl T.g_is_number_below pass0 (pa_cons (pv 5) (pa_cons (pe_callB call_len_seq (by rfl) T.b_len PySem.boot_len (pa_cons (pv 2) pa_nil)) pa_nil)))))
            (pw_or1 (pt_not (pt_val (pe_fd (ok_num T) (hr.mono (by decide)) rfl T.g_is_number pass0 (pa_cons (pv 6) pa_nil)))))))) (pss_one (ps_ret pe_non)) pss_nil)
        (pss_cons (ps_if (pt_not (pt_val (pe_fd (ok_can T) (hr.mono (by decide)) rfl T.g_can_step pass0 (pa_cons (pe_ix ix_sq (pv 2) (pv 4) (fun _ _ => rfl)) (pa_cons (pe_ix ix_sq (pv 2) (pv 5) (fun _ _ => rfl)) (pa_cons (pv 6) pa_nil)))))) (pss_one (ps_ret pe_non)) pss_nil)
          (pss_one (ps_expr (pe_bm PySem.F.plainAttrs_list PySem.F.slot_list_append PySem.F.type_list_append mt_append (pv 2) (pa_cons (pe_fd (ok_stepped T) hr rfl T.g_stepped pass0 (pa_cons (pe_ix ix_sq (pv 2) (pv 4) (fun _ _ => rfl)) (pa_cons (pe_ix ix_sq (pv 2) (pv 5) (fun _ _ => rfl)) (pa_cons (pv 6) pa_nil)))) pa_nil)))))))))
      (pss_one (ps_ret (pv 2)))))), ?_⟩
    have tl : us.length = told.length := by
      have := dpAll_len hu
      rwa [List.length_map] at this
    have notT : broughtD told d = none ∨ ∃ ds, d = .tuple ds := by
      cases d with
      | tuple ds => exact .inr ⟨ds, rfl⟩
      | _ => exact .inl rfl
    cases hd with
    | non => exact isi_var rfl .non (by decide) (isD_tuple _) ⟨_, rfl, iteT (kn rfl H (same_refl H))⟩
    | bl b => exact isi_var rfl (.bl b) (by decide) (isD_tuple _) ⟨_, rfl, iteT (kn rfl H (same_refl H))⟩
    | int b => exact isi_var rfl (.int b) (by decide) (isD_tuple _) ⟨_, rfl, iteT (kn rfl H (same_refl H))⟩
    | str b => exact isi_var rfl (.str b) (by decide) (isD_tuple _) ⟨_, rfl, iteT (kn rfl H (same_refl H))⟩
    | lst q1 q2 => exact isi_var rfl (.lst q1 q2) (by decide) (isD_tuple _) ⟨_, rfl, iteT (kn rfl H (same_refl H))⟩
    | @tup b ws ds hw hds =>
      have d200 := few ds rfl
      have wl := dpAll_len hds
      refine isi_var rfl (.tup hw hds) (by decide) (isD_tuple _) ⟨_, rfl, iteF ⟨_, rfl, a, us, rfl, .inr hq, fun l hl => ?_⟩⟩
      have s0 : Same H (upd H l (.lst us)) := same_new hl
      refine ⟨_, rfl, b, rfl, for_sqS (H0 := H) (fun i σ H' => (∃ x3 x4 x5 x6, σ = [some (.ref a), some (.ref b), some (.ref l), x3, x4, x5, x6]) ∧ Same H H' ∧ ∃ fs : List Pm, LD K H' l (fs.map pmD) ∧ (∀ p ∈ fs, can3 p) ∧ fs.length = told.length + i ∧ walkD (ds.drop i) fs = walkD ds told) (.inr hw)
        ⟨⟨_, _, _, _, rfl⟩, s0, told, ⟨us, upd_same, dpAll_mono s0 _ _ hu⟩, c3, rfl, rfl⟩ (fun i σ H' _ p => p.2.1) (fun i x σ H' hx p => ?_) (fun σ H' p => ?_)⟩
      · obtain ⟨⟨x3, x4, x5, x6, rfl⟩, s1, fs, hL, cf, lf, hW⟩ := p
        obtain ⟨dx, hdx, px⟩ := dpAll_get hds hx
        have il : i < ds.length := (List.getElem?_eq_some_iff.mp hdx).1
        have edrop : ds.drop i = dx :: ds.drop (i + 1) := by
          rw [List.drop_eq_getElem_cons il]
          congr 1
          rw [List.getElem?_eq_getElem il] at hdx
          exact Option.some.inj hdx
        rw [edrop] at hW
        have hW' : (match stpOf fs.length dx with | none => none | some t => if canB (gp fs t.1) (gp fs t.2.1) t.2.2 = true then walkD (ds.drop (i + 1)) (fs ++ [stepP (gp fs t.1) (gp fs t.2.1) t.2.2]) else none) = walkD ds told := hW
        have px1 := dp_mono s1 _ _ px
        have out : stpOf fs.length dx = none → broughtD told (.tuple ds) = none := fun z => by
          rw [z] at hW'
          exact hW'.symm
        have big : 100000 ≤ sizeLine := by decide
        cases px1 with
        | non => exact isi_var rfl .non (by decide) (isD_tuple _) ⟨_, rfl, iteT (kn (out rfl) _ s1)⟩
        | bl b => exact isi_var rfl (.bl b) (by decide) (isD_tuple _) ⟨_, rfl, iteT (kn (out rfl) _ s1)⟩
        | int b => exact isi_var rfl (.int b) (by decide) (isD_tuple _) ⟨_, rfl, iteT (kn (out rfl) _ s1)⟩
        | str b => exact isi_var rfl (.str b) (by decide) (isD_tuple _) ⟨_, rfl, iteT (kn (out rfl) _ s1)⟩
        | lst q1 q2 => exact isi_var rfl (.lst q1 q2) (by decide) (isD_tuple _) ⟨_, rfl, iteT (kn (out rfl) _ s1)⟩
        | @tup c zs es hz hes =>
          have zl := dpAll_len hes
          refine isi_var rfl (.tup hz hes) (by decide) (isD_tuple _) ⟨_, rfl, iteF ⟨_, rfl, c, zs, rfl, .inr hz, rfl, _, rfl, ?_⟩⟩
          refine ite2 (fun c1 => ?_) (fun c1 => ?_)
          · refine kn (out (stpOf_short fun z => ?_)) _ s1
            rw [zl, z] at c1
            cases c1
          · have l3 : zs.length = 3 := by
              have c2 : decide (V.int (zs.length : Int) = V.int 3) = true := by simpa using c1
              have c3' := of_decide_eq_true c2
              simp only [V.int.injEq] at c3'
              omega
            obtain ⟨d1, d2, d3, z1, z2, z3, rfl, rfl, p1, p2, p3⟩ := dp_three hes l3
            rw [stpOf_three] at hW'
            have outs : ¬ (belowB d1 fs.length = true ∧ belowB d2 fs.length = true ∧ numB d3 = true) → broughtD told (.tuple ds) = none := fun z => by
              rw [if_neg z] at hW'
              exact hW'.symm
            refine ⟨_, rfl, c, _, rfl, hz, rfl, _, _, rfl, _, _, rfl, _, _, rfl, rfl, ?_⟩
            obtain ⟨lv, hlv, dlv⟩ := id hL
            have ll : lv.length = fs.length := by
              have := dpAll_len dlv
              rwa [List.length_map] at this
            refine ⟨_, rfl, _, rfl, l, lv, rfl, .inl (SqL.of hlv), z1, d1, _, rfl, p1, _, rfl, ?_⟩
            rw [ll]
            refine ite2 (fun c4 => ?_) (fun c4 => ?_)
            · refine kn (outs fun z => ?_) _ s1
              have := z.1
              simp [this] at c4
            have b1 : belowB d1 fs.length = true := by simpa using c4
            refine ⟨_, rfl, _, rfl, l, lv, rfl, .inl (SqL.of hlv), z2, d2, _, rfl, p2, _, rfl, ?_⟩
            rw [ll]
            refine ite2 (fun c5 => ?_) (fun c5 => ?_)
            · refine kn (outs fun z => ?_) _ s1
              have := z.2.1
              simp [this] at c5
            have b2 : belowB d2 fs.length = true := by simpa using c5
            refine ⟨_, rfl, z3, d3, rfl, p3, _, rfl, ?_⟩
            refine ite2 (fun c6 => ?_) (fun c6 => ?_)
            · refine kn (outs fun z => ?_) _ s1
              have := z.2.2
              simp [this] at c6
            have b3 : numB d3 = true := by simpa using c6
            rw [if_pos ⟨b1, b2, b3⟩] at hW'
            cases p1 with
            | int i1 =>
              cases p2 with
              | int i2 =>
                cases p3 with
                | int i3 =>
                  simp only [belowB, Bool.and_eq_true, decide_eq_true_eq] at b1 b2
                  obtain ⟨n1, rfl⟩ : ∃ n : Nat, i1 = (n : Int) := ⟨i1.toNat, by omega⟩
                  obtain ⟨n2, rfl⟩ : ∃ n : Nat, i2 = (n : Int) := ⟨i2.toNat, by omega⟩
                  have l1 : n1 < fs.length := by omega
                  have l2 : n2 < fs.length := by omega
                  have hW2 : (if canB (gp fs n1) (gp fs n2) i3 = true then walkD (ds.drop (i + 1)) (fs ++ [stepP (gp fs n1) (gp fs n2) i3]) else none) = walkD ds told := hW'
                  obtain ⟨m1v, u1, q1, q2, q3⟩ := made_at hL l1
                  obtain ⟨m2v, u2, q4, q5, q6⟩ := made_at hL l2
                  refine ⟨_, rfl, _, rfl, ix_at (.inl q1) q2 ⟨_, rfl, _, rfl, ix_at (.inl q4) q5 ⟨_, rfl, u1, u2, gp fs n1, gp fs n2, i3, rfl, q3, q6, _, rfl, ?_⟩⟩⟩
                  refine ite2 (fun c7 => ?_) (fun c7 => ?_)
                  · have c8 : ¬ canB (gp fs n1) (gp fs n2) i3 = true := fun z => by simp [z] at c7
                    rw [if_neg c8] at hW2
                    exact kn hW2.symm _ s1
                  · have c8 : canB (gp fs n1) (gp fs n2) i3 = true := by simpa using c7
                    rw [if_pos c8] at hW2
                    refine ⟨_, rfl, .inl ⟨rfl, _, SqL.of hlv⟩, ⟨_, rfl, _, rfl, ix_at (.inl q1) q2 ⟨_, rfl, _, rfl, ix_at (.inl q4) q5 ⟨_, rfl, u1, u2, gp fs n1, gp fs n2, i3, rfl, q3, q6, cf _ (gp_mem l1), cf _ (gp_mem l2), fun H2 t s2 nt dt => nil_go ?_⟩⟩⟩⟩
                    refine app_data (d := pmD (stepP (gp fs n1) (gp fs n2) i3)) (hL.same s2) dt (by rw [List.length_map]; omega) (pms_firm _) (pm_firm _) fun o ho go => ?_
                    refine ⟨⟨_, _, _, _, rfl⟩, same_upd (same_trans s1 s2) hl, fs ++ [stepP (gp fs n1) (gp fs n2) i3], by rw [List.map_append]; exact ho, fun p hp => ?_, by rw [List.length_append, lf]; rfl, hW2⟩
                    rcases List.mem_append.mp hp with hp | hp
                    · exact cf p hp
                    · simp only [List.mem_singleton] at hp
                      rw [hp]
                      exact can3_step (cf _ (gp_mem l1)) (cf _ (gp_mem l2))
                | _ => cases b3
              | _ => cases b2
            | _ => cases b1
      · obtain ⟨⟨x3, x4, x5, x6, rfl⟩, s1, fs, hL, cf, lf, hW⟩ := p
        rw [wl, List.drop_length] at hW
        exact ⟨_, rfl, ks fs hW.symm _ l s1 hl hL⟩
/-! ### the court's own two -/
def comeD (told : List Pm) (d : PyData) : Bool := match broughtD told d with
  | some fs => decide (E0 ∈ fs)
  | none => false
def spClash (K : PySem.W.Frag) : Sp := fun vs H Q _ => ∃ (v u : V) (told : List Pm) (d : PyData), vs = [v, u] ∧ (∃ a us, v = .ref a ∧ SqT K H a us ∧ DpAll K H us (told.map pmD)) ∧ Dp K H u d ∧ fewT d ∧ (∀ p ∈ told, can3 p) ∧ told.length ≤ 200 ∧
  ∀ H', Same H H' → Q (.bl (comeD told d)) H'
theorem scClash : FnScope ["told", "value", "made"] ["told", "value"] (defScope (top 25)) := ⟨rfl, rfl, rfl, by decide +kernel, rfl, by decide +kernel, by decide +kernel⟩
theorem empty_dp {mg : Str → Option Value} (T : Tx K mg) (H : Hp) : Dp K H (.ref (He.ga K "_EMPTY")) (pmD E0) :=
  .tup (T.t__EMPTY H) (.cons (.tup (T.t__EMPTY1 H) .nil) (.cons (.tup (T.t__EMPTY2 H) .nil) .nil))
theorem ok_clash (T : Tx K mg) : Fd P w K mg base CX0 4 "_is_clash" ["told", "value"] (spClash K) := by
  obtain ⟨fd, F⟩ := T.F__is_clash
  refine ⟨fd, ?_, F.bindsN fun _ _ _ _ _ _ us hl => match us, hl with | [_, _], _ => rfl, F.kp⟩
  refine F.ok scClash (fun vs H Q E h => ?_) (fun cdv A ou s H vs Q E hr h => ?_)
  · obtain ⟨v, u, told, d, rfl, _⟩ := h
    rfl
  · obtain ⟨v, u, told, d, rfl, ht, hd, few, c3, t200, k⟩ := h
    have hun := room65 hr
    refine ⟨_, PSs.nox (pss_cons (ps_set (i := 2) scClash.nd rfl (Or.inl rfl) (pe_fd (ok_brought T) hr rfl T.g_brought pass0 (pa_cons (pv 0) (pa_cons (pv 1) pa_nil))))
      (pss_one (ps_ret (pe_and (pe_cmpR op_notN (pv 2) pe_non (nomark _)) (pe_one (pe_cmpR (op_inD hun) (pe_glob (by rfl) T.g__EMPTY (show RelV (.ref (He.ga K "_EMPTY")) (.ref (He.ga K "_EMPTY")) from rfl)) (pv 2) rfl)))))), ?_⟩
    refine ⟨_, rfl, _, rfl, v, u, told, d, rfl, ht, hd, few, c3, t200, fun e H' s1 => ?_, fun fs e H' t s1 nt hL => ?_⟩
    · have ec : comeD told d = false := by unfold comeD; rw [e]
      rw [ec] at k
      exact ⟨_, rfl, rfl, _, rfl, iteF (k H' s1)⟩
    · have ec : comeD told d = decide (E0 ∈ fs) := by unfold comeD; rw [e]
      rw [ec] at k
      obtain ⟨lv, hlv, dlv⟩ := hL
      refine ⟨_, rfl, rfl, _, rfl, iteT ⟨_, rfl, pmD E0, fs.map pmD, empty_dp T H', .lst (SqL.of hlv) dlv, pm_shaped _, pms_shaped _, ?_⟩⟩
      rw [any_pm]
      exact k H' s1
def spSteps (K : PySem.W.Frag) : Sp := fun vs H Q E => ∃ v d, vs = [v] ∧ Dp K H v d ∧ fewAll d ∧
  (∀ k, needD 3 d = .inl k → ∀ dd H', Same H H' → H' dd = some (.xd [("at", .int k)]) → E (.ref (CP K)) (some dd) H') ∧
  ∀ ps, needD 3 d = .inr ps → (found ps = none → ∀ H', Same H H' → Q .non H') ∧ ∀ ts, found ps = some ts → ∀ H' t, Same H H' → H t = none → Dp K H' (.ref t) (.tuple (ts.map stpD)) → Q (.ref t) H'
theorem scSteps : FnScope ["sheets"] ["sheets"] (defScope (top 23)) := ⟨rfl, rfl, rfl, by decide +kernel, rfl, by decide +kernel, by decide +kernel⟩
theorem need_len {d : PyData} (few : fewAll d) {n : Int} {ps : List Pm} (h : needD n d = .inr ps) : ps.length ≤ 200 := by
  unfold needD at h
  cases e : itemsD d with
  | none =>
    rw [e] at h
    cases h
  | some ds =>
    rw [e] at h
    have := needGo_len ds 0 ps h
    have := (few ds e).2
    omega
theorem need_can {d : PyData} {ps : List Pm} (h : needD 3 d = .inr ps) : ∀ p ∈ ps, can3 p := by
  unfold needD at h
  cases e : itemsD d with
  | none =>
    rw [e] at h
    cases h
  | some ds =>
    rw [e] at h
    exact needGo_can (Int.le_refl _) ds 0 ps h
theorem ok_stepsA (T : Tx K mg) {fd : FuncData} (F : FnP K "clash_steps" 23 [] (He.ga K "clash_steps") fd) : FnOk P w K mg base (L2.CX P w) 5 (He.ga K "clash_steps") fd ["sheets"] (spSteps K) := by
  obtain ⟨t3, m3⟩ := T.v_MOST_PLACES
  refine F.ok scSteps (fun vs H Q E h => ?_) (fun cdv A ou s H vs Q E hr h => ?_)
  · obtain ⟨v, d, rfl, _⟩ := h
    rfl
  · obtain ⟨v, d, rfl, hd, few, ke, kq⟩ := h
    refine ⟨_, pss_one (ps_ret (pe_fd (ok_found T) (hr.mono (by decide)) rfl T.g_found_steps pass0 (pa_cons (pe_fd (E := E) (ok_need T) hr rfl T.g_need_premises (passes_call (takes_of rfl rfl rfl rfl) fun _ _ _ _ z => z) (pa_cons (pv 0) (pa_cons (pe_glob (by rfl) m3 (show RelV (.int 3) (.int 3 t3) from ⟨_, rfl⟩)) pa_nil)))
      (pa_cons (pe_glob (by rfl) T.g__EMPTY (show RelV (.ref (He.ga K "_EMPTY")) (.ref (He.ga K "_EMPTY")) from rfl)) pa_nil)))), ?_⟩
    refine ⟨_, rfl, v, d, 3, rfl, hd, few, ke, fun ps eps H' t s1 nt dt => ?_⟩
    cases dt with
    | tup hs hds =>
      obtain ⟨k1, k2⟩ := kq ps eps
      exact ⟨_, _, ps, E0, rfl, ⟨_, _, rfl, hs, hds⟩, empty_dp T H', need_can eps, need_len few eps, fun z H2 s2 => k1 z H2 (same_trans s1 s2), fun ts z H2 t2 s2 n2 d2 => k2 ts z H2 t2 (same_trans s1 s2) (s1.free n2) d2⟩
theorem ok_steps (T : Tx K mg) : Fd P w K mg base (L2.CX P w) 5 "clash_steps" ["sheets"] (spSteps K) := by
  obtain ⟨fd, F⟩ := T.F_clash_steps
  exact ⟨fd, ok_stepsA T F, F.bindsN fun _ _ _ _ _ _ us hl => match us, hl with | [_], _ => rfl, F.kp⟩
def spHold (K : PySem.W.Frag) : Sp := fun vs H Q E => ∃ v u d e, vs = [v, u] ∧ Dp K H v d ∧ Dp K H u e ∧ fewAll d ∧ fewT e ∧
  (∀ k, needD 3 d = .inl k → ∀ dd H', Same H H' → H' dd = some (.xd [("at", .int k)]) → E (.ref (CP K)) (some dd) H') ∧
  ∀ ps, needD 3 d = .inr ps → ∀ H', Same H H' → Q (.bl (comeD ps e)) H'
theorem scHold : FnScope ["sheets", "value"] ["sheets", "value"] (defScope (top 24)) := ⟨rfl, rfl, rfl, by decide +kernel, rfl, by decide +kernel, by decide +kernel⟩
theorem ok_holdA (T : Tx K mg) {fd : FuncData} (F : FnP K "steps_hold" 24 [] (He.ga K "steps_hold") fd) : FnOk P w K mg base (L2.CX P w) 5 (He.ga K "steps_hold") fd ["sheets", "value"] (spHold K) := by
  obtain ⟨t3, m3⟩ := T.v_MOST_PLACES
  refine F.ok scHold (fun vs H Q E h => ?_) (fun cdv A ou s H vs Q E hr h => ?_)
  · obtain ⟨v, u, d, e, rfl, _⟩ := h
    rfl
  · obtain ⟨v, u, d, e, rfl, hd, he, few, fewt, ke, kq⟩ := h
    refine ⟨_, pss_one (ps_ret (pe_fd (ok_clash T) hr rfl T.g__is_clash pass0 (pa_cons (pe_fd (E := E) (ok_need T) hr rfl T.g_need_premises (passes_call (takes_of rfl rfl rfl rfl) fun _ _ _ _ z => z) (pa_cons (pv 0) (pa_cons (pe_glob (by rfl) m3 (show RelV (.int 3) (.int 3 t3) from ⟨_, rfl⟩)) pa_nil)))
      (pa_cons (pv 1) pa_nil)))), ?_⟩
    refine ⟨_, rfl, v, d, 3, rfl, hd, few, ke, fun ps eps H' t s1 nt dt => ?_⟩
    cases dt with
    | tup hs hds => exact ⟨_, rfl, _, _, ps, e, rfl, ⟨_, _, rfl, hs, hds⟩, dp_mono s1 _ _ he, fewt, need_can eps, need_len few eps, fun H2 s2 => kq ps eps H2 (same_trans s1 s2)⟩
theorem ok_hold (T : Tx K mg) : Fd P w K mg base (L2.CX P w) 5 "steps_hold" ["sheets", "value"] (spHold K) := by
  obtain ⟨fd, F⟩ := T.F_steps_hold
  exact ⟨fd, ok_holdA T F, F.bindsN fun _ _ _ _ _ _ us hl => match us, hl with | [_, _], _ => rfl, F.kp⟩
end
end K07

set_option Elab.async false
set_option linter.all false
set_option pp.maxSteps 800
set_option pp.deepTerms false
set_option maxRecDepth 100000
set_option maxHeartbeats 4000000
namespace K07
open PySem PySem.Spec PyProof.Rows L2 Say
/-- a source of draws: three whole numbers -/
def BoxAt (H : Hp) (p : Addr) : Prop := ∃ x y z : Int, H p = some (.lst [.int x, .int y, .int z])
def spBox (K : PySem.W.Frag) : Sp := fun vs H Q _ => ∃ (a : Addr) (ns : List Int) (k : Nat), vs = [.ref a, .int k] ∧ SqL K H a (ns.map V.int) ∧ k ≤ 1000 ∧
  ∀ H' p, Same H H' → H p = none → BoxAt H' p → Q (.ref p) H'
/-- a draw: the box alone changes -/
def spTake : Sp := fun vs H Q _ => ∃ (p : Addr) (m : Int), vs = [.ref p, .int m] ∧ BoxAt H p ∧ 0 < m ∧ m < 1073741824 ∧
  ∀ (H' : Hp) (r : Int), 0 ≤ r → r < m → BoxAt H' p → (∀ b, b ≠ p → H' b = H b) → Q (.int r) H'
def spPick (K : PySem.W.Frag) : Sp := fun vs H Q _ => ∃ (p q : Addr) (xs : List V), vs = [.ref p, .ref q] ∧ BoxAt H p ∧ p ≠ q ∧ SqL K H q xs ∧ 0 < xs.length ∧ xs.length ≤ 1000 ∧
  ∀ (H' : Hp) (v : V), v ∈ xs → BoxAt H' p → (∀ b, b ≠ p → H' b = H b) → Q v H'
section
variable {P : Program} {w : World} {K : PySem.W.Frag} {mg : Str → Option Value} {base : Heap}
def NTake : List Str := ["_law_box_here", "_law_many", "_law_digit", "_law_raw"]
theorem scTake : FnScope NTake ["_law_box_here", "_law_many"] (defScope (top 28)) := ⟨rfl, rfl, rfl, by decide +kernel, rfl, by decide +kernel, by decide +kernel⟩
theorem ok_take (B : Tx K mg) : Fd P w K mg base CX0 2 "_law_take" ["_law_box_here", "_law_many"] spTake := by
  obtain ⟨fd, F⟩ := B.F__law_take
  refine ⟨fd, ?_, F.bindsN fun _ _ _ _ _ _ us hl => match us, hl with | [_, _], _ => rfl, F.kp⟩
  refine F.ok scTake (fun vs H Q E h => ?_) (fun cdv A ou s H vs Q E hr h => ?_)
  · obtain ⟨p, m, rfl, _⟩ := h
    rfl
  · obtain ⟨p, m, rfl, ⟨x, y, z, hp⟩, m0, m1, k⟩ := h
    refine ⟨_, PSs.nox (pss_cons (ps_if (pt_cmpR op_gt (pe_ix ix_list (pv 0) pe_int (fun _ _ => rfl)) pe_int (nomark _))
        (pss_cons (ps_set (i := 2) scTake.nd rfl (Or.inl rfl) (pe_op op_mod (pe_callTy call_int1 (by rfl) B.b_int (by decide +kernel) (pa_cons (pe_ix ix_list (pv 0) pe_int (fun _ _ => rfl)) pa_nil)) (pv 1)))
          (pss_cons (ps_asg (pe_op op_fdiv (pe_ix ix_list (pv 0) pe_int (fun _ _ => rfl)) (pv 1)) (pg_sub (pv 0) pe_int set_list))
            (pss_one (ps_ret (pv 2))))) pss_nil)
      (pss_cons (ps_asg (pe_op op_add (pe_ix ix_list (pv 0) pe_int (fun _ _ => rfl)) pe_int) (pg_sub (pv 0) pe_int set_list))
        (pss_cons (ps_set (i := 3) scTake.nd rfl (Or.inl rfl) (pe_op op_mod (pe_callTy call_int1 (by rfl) B.b_int (by decide +kernel) (pa_cons
            (pe_op op_add (pe_op op_mul (pe_op op_add (pe_ix ix_list (pv 0) pe_int (fun _ _ => rfl)) (pe_op op_mul pe_int (pe_ix ix_list (pv 0) pe_int (fun _ _ => rfl)))) pe_int) pe_int) pa_nil)) pe_int))
          (pss_cons (ps_asg (pe_op op_add (pe_op op_mod (pe_callTy call_int1 (by rfl) B.b_int (by decide +kernel) (pa_cons (pe_op op_add (pe_op op_mul (pv 3) pe_int) pe_int) pa_nil)) pe_int) pe_int) (pg_sub (pv 0) pe_int set_list))
            (pss_one (ps_ret (pe_op op_mod (pe_callTy call_int1 (by rfl) B.b_int (by decide +kernel) (pa_cons
              (pe_op op_fdiv (pe_op op_add (pe_op op_mul (pv 3) pe_int) (pe_ix ix_list (pv 0) pe_int (fun _ _ => rfl))) pe_int) pa_nil)) (pv 1)))))))), ?_⟩
    have at0 : ∀ a b c : Int, atI [V.int a, V.int b, V.int c] 0 = some (V.int a) := fun _ _ _ => rfl
    refine ⟨_, rfl, p, _, _, _, rfl, rfl, SqL.of hp, rfl, _, _, rfl, rfl, _, rfl, ?_⟩
    refine ite2 (fun _ => ?_) (fun _ => ?_)
    · refine ⟨_, rfl, p, _, _, _, rfl, rfl, SqL.of hp, rfl, .inl ⟨_, rfl, _, rfl, _, _, rfl, rfl, m0, ?_⟩⟩
      refine ⟨_, rfl, p, _, _, _, rfl, rfl, SqL.of hp, rfl, _, rfl, _, _, rfl, rfl, ⟨m0, m1⟩, ?_⟩
      refine ⟨_, rfl, p, _, _, 0, rfl, rfl, hp, rfl, ?_⟩
      refine ⟨_, rfl, ?_⟩
      exact k _ _ (Int.emod_nonneg _ (by omega)) (Int.emod_lt_of_pos _ m0) ⟨_, _, _, upd_same⟩ (fun b nb => upd_ne nb)
    · refine ⟨_, rfl, p, _, _, _, rfl, rfl, SqL.of hp, rfl, _, _, rfl, rfl, ?_⟩
      refine ⟨_, rfl, p, _, _, 2, rfl, rfl, hp, rfl, ?_⟩
      refine ⟨_, rfl, p, _, _, _, rfl, rfl, SqL.of upd_same, rfl, _, rfl, p, _, _, _, rfl, rfl, SqL.of upd_same, rfl, _, _, rfl, rfl, .inl (by constructor <;> decide), _, _, rfl, rfl, _, _, rfl, rfl, .inr (by constructor <;> decide), _, _, rfl, rfl, ?_⟩
      refine .inl ⟨_, rfl, _, _, rfl, rfl, (by show (0 : Int) < 2147483563; decide), ?_⟩
      refine ⟨_, rfl, _, _, rfl, rfl, .inr (by constructor <;> decide), _, _, rfl, rfl, .inl ⟨_, rfl, _, _, rfl, rfl, (by show (0 : Int) < 2147483629; decide), _, _, rfl, rfl, ?_⟩⟩
      refine ⟨_, rfl, p, _, _, 1, rfl, rfl, upd_same, rfl, ?_⟩
      refine ⟨_, rfl, _, _, rfl, rfl, .inr (by constructor <;> decide), _, rfl, p, _, _, _, rfl, rfl, SqL.of upd_same, rfl, _, _, rfl, rfl, _, _, rfl, rfl, (by constructor <;> decide), ?_⟩
      refine .inl ⟨_, rfl, _, rfl, _, _, rfl, rfl, m0, ?_⟩
      exact k _ _ (Int.emod_nonneg _ (by omega)) (Int.emod_lt_of_pos _ m0) ⟨_, _, _, upd_same⟩ (fun b nb => by rw [upd_ne nb, upd_ne nb])
theorem sqL_eq {H H' : Hp} {q : Addr} {xs : List V} (e : H' q = H q) (h : SqL K H q xs) : SqL K H' q xs := by
  rcases h with (h | ⟨o, h⟩) | h
  · exact .inl (.inl (e.trans h))
  · exact .inl (.inr ⟨o, e.trans h⟩)
  · exact .inr h
theorem scPick : FnScope ["_law_box_here", "_law_some"] ["_law_box_here", "_law_some"] (defScope (top 29)) := ⟨rfl, rfl, rfl, by decide +kernel, rfl, by decide +kernel, by decide +kernel⟩
theorem ok_pick (B : Tx K mg) : Fd P w K mg base CX0 3 "_law_pick" ["_law_box_here", "_law_some"] (spPick K) := by
  obtain ⟨fd, F⟩ := B.F__law_pick
  refine ⟨fd, ?_, F.bindsN fun _ _ _ _ _ _ us hl => match us, hl with | [_, _], _ => rfl, F.kp⟩
  refine F.ok scPick (fun vs H Q E h => ?_) (fun cdv A ou s H vs Q E hr h => ?_)
  · obtain ⟨p, q, xs, rfl, _⟩ := h
    rfl
  · obtain ⟨p, q, xs, rfl, hB, npq, hS, l0, l1, k⟩ := h
    refine ⟨_, PSs.nox (pss_one (ps_ret (pe_ix ix_list (pv 1) (pe_fd (ok_take B) hr rfl B.g__law_take pass0 (pa_cons (pv 0) (pa_cons (pe_callB call_len_seq (by rfl) B.b_len PySem.boot_len (pa_cons (pv 1) pa_nil)) pa_nil))) (fun _ _ => rfl)))), ?_⟩
    refine ⟨_, rfl, _, rfl, _, rfl, q, xs, rfl, .inl hS, p, (xs.length : Int), rfl, hB, by omega, by omega, fun H' r r0 r1 hB' e => ?_⟩
    obtain ⟨j, rfl⟩ : ∃ j : Nat, r = (j : Int) := ⟨r.toNat, (Int.toNat_of_nonneg r0).symm⟩
    have hj : j < xs.length := by omega
    exact ⟨q, xs, (j : Int), xs[j], rfl, rfl, sqL_eq (e q npq.symm) hS, atI_nat (List.getElem?_eq_getElem hj), k H' _ (List.getElem_mem hj) hB' e⟩
/-- what _law_box hands back: its reading, whatever the cell is -/
theorem box_end (K : PySem.W.Frag) (n : Nat) (c : Int) (a : Addr) (H : Hp) (Q : VK) (k : ∀ H' p, Same H H' → H p = none → BoxAt H' p → Q (.ref p) H') :
    tRet (tLst (tCons (tOp (rIxL K) (tLst (tCons (tC (.int 0)) (tCons (tVar 2) tNil))) (tCB (fun xs H Q => (∃ i, xs = [.int i] ∧ Q (.int i) H) ∨ ∃ k, xs = [.bl k] ∧ Q (.int (if k then 1 else 0)) H)
        (tCons (tOp (rI0 fun i j => .bl (decide (j ≤ i))) (tVar 2) (tOp (rI CPow fun i j => .int (i ^ j.toNat)) (tC (.int 10)) (tC (.int 18)))) tNil)))
      (tCons (tOp (rI0 fun i j => .int (i + j)) (tOp (rI (fun _ j => 0 < j) fun i j => .int (i % j)) (tCB (fun xs H Q => (∃ i, xs = [.int i] ∧ Q (.int i) H) ∨ ∃ k, xs = [.bl k] ∧ Q (.int (if k then 1 else 0)) H)
        (tCons (tOp (rI0 fun i j => .int (i + j)) (tOp (rI CMul fun i j => .int (i * j)) (tOp (rI (fun _ j => 0 < j) fun i j => .int (i % j)) (tCB (fun xs H Q => (∃ i, xs = [.int i] ∧ Q (.int i) H) ∨ ∃ k, xs = [.bl k] ∧ Q (.int (if k then 1 else 0)) H)
          (tCons (tVar 2) tNil)) (tC (.int 2147483629))) (tC (.int 48271))) (tOp (rI CMul fun i j => .int (i * j)) (tC (.int 42013)) (tVar 1))) tNil)) (tC (.int 2147483629))) (tC (.int 1)))
        (tCons (tC (.int 0)) tNil)))) { nx := fun _ H' => Q .non H', rt := Q } [some (.ref a), some (.int n), some (.int c)] H := by
  have pick : ∀ b : Bool, ∃ z, atI [V.int 0, V.int c] (if b then 1 else 0) = some (V.int z) := fun b => by
    cases b
    · exact ⟨0, rfl⟩
    · exact ⟨c, rfl⟩
  obtain ⟨z, hz⟩ := pick (decide ((10 : Int) ^ (18 : Int).toNat ≤ c))
  refine ⟨_, rfl, (by show 2 ≤ sizeLine; decide), fun l hl => ?_⟩
  refine ⟨_, rfl, _, _, rfl, rfl, (by refine ⟨by decide, by decide, by decide⟩), _, _, rfl, rfl, .inr ⟨_, rfl, l, _, _, _, rfl, rfl, SqL.of upd_same, hz, ?_⟩⟩
  refine ⟨_, rfl, .inl ⟨_, rfl, _, _, rfl, rfl, (by show (0 : Int) < 2147483629; decide), _, _, rfl, rfl, .inr (by constructor <;> decide), _, rfl, _, _, rfl, rfl, .inl (by constructor <;> decide), _, _, rfl, rfl, ?_⟩⟩
  refine .inl ⟨_, rfl, _, _, rfl, rfl, (by show (0 : Int) < 2147483629; decide), _, _, rfl, rfl, (by show 3 ≤ sizeLine; decide), fun p hp => ?_⟩
  have hpH : H p = none := by
    by_cases e : p = l
    · rw [e]
      exact hl
    · rw [upd_ne e] at hp
      exact hp
  refine k _ p (fun b o q => ?_) hpH ⟨_, _, _, upd_same⟩
  rw [upd_ne (ne_of_none q hpH), upd_ne (ne_of_none q hl)]
  exact q
theorem scBox : FnScope ["_law_script", "_law_k", "_law_cell"] ["_law_script", "_law_k"] (defScope (top 27)) := ⟨rfl, rfl, rfl, by decide +kernel, rfl, by decide +kernel, by decide +kernel⟩
theorem ok_box (B : Tx K mg) : Fd P w K mg base CX0 2 "_law_box" ["_law_script", "_law_k"] (spBox K) := by
  obtain ⟨fd, F⟩ := B.F__law_box
  refine ⟨fd, ?_, F.bindsN fun _ _ _ _ _ _ us hl => match us, hl with | [_, _], _ => rfl, F.kp⟩
  refine F.ok scBox (fun vs H Q E h => ?_) (fun cdv A ou s H vs Q E hr h => ?_)
  · obtain ⟨a, ns, n, rfl, _⟩ := h
    rfl
  · obtain ⟨a, ns, n, rfl, hS, n1, k⟩ := h
    refine ⟨_, PSs.nox (pss_cons (ps_set (i := 2) scBox.nd rfl (Or.inl rfl) (pe_op op_add (pe_op op_mul pe_int (pv 1)) pe_int))
      (pss_cons (ps_if (pt_cmpR op_lt (pv 1) (pe_callB call_len_seq (by rfl) B.b_len PySem.boot_len (pa_cons (pv 0) pa_nil)) (nomark _))
          (pss_one (ps_set (i := 2) scBox.nd rfl (Or.inl rfl) (pe_callB call_abs (by rfl) B.b_abs (by decide +kernel) (pa_cons (pe_ix ix_list (pv 0) (pv 1) (fun _ _ => rfl)) pa_nil))))
          (pss_one (ps_if (pt_cmpR op_gt (pe_callB call_len_seq (by rfl) B.b_len PySem.boot_len (pa_cons (pv 0) pa_nil)) pe_int (nomark _))
            (pss_one (ps_set (i := 2) scBox.nd rfl (Or.inl rfl) (pe_op op_add (pv 2) (pe_op op_mul (pe_op op_mod (pe_callTy call_int1 (by rfl) B.b_int (by decide +kernel) (pa_cons
              (pe_callB call_abs (by rfl) B.b_abs (by decide +kernel) (pa_cons (pe_ix ix_list (pv 0) (pe_op op_mod (pe_callTy call_int1 (by rfl) B.b_int (by decide +kernel) (pa_cons (pv 1) pa_nil))
                (pe_callB call_len_seq (by rfl) B.b_len PySem.boot_len (pa_cons (pv 0) pa_nil))) (fun _ _ => rfl)) pa_nil)) pa_nil)) pe_int) pe_int)))) pss_nil)))
      (pss_one (ps_ret (pe_lst (pa_cons (pe_ix ix_list (pe_lst (pa_cons pe_int (pa_cons (pv 2) pa_nil))) (pe_callTy call_int1 (by rfl) B.b_int (by decide +kernel) (pa_cons
          (pe_cmpR op_ge (pv 2) (pe_op op_pow pe_int pe_int) (nomark _)) pa_nil)) (fun _ _ => rfl))
        (pa_cons (pe_op op_add (pe_op op_mod (pe_callTy call_int1 (by rfl) B.b_int (by decide +kernel) (pa_cons (pe_op op_add (pe_op op_mul (pe_op op_mod (pe_callTy call_int1 (by rfl) B.b_int (by decide +kernel) (pa_cons (pv 2) pa_nil)) pe_int) pe_int)
          (pe_op op_mul pe_int (pv 1))) pa_nil)) pe_int) pe_int) (pa_cons pe_int pa_nil)))))))), ?_⟩
    have get : ∀ {j : Nat}, j < ns.length → ∃ z, atI (ns.map V.int) (j : Int) = some (V.int z) := fun {j} hj =>
      ⟨ns[j], atI_nat (by rw [List.getElem?_map, List.getElem?_eq_getElem hj]; rfl)⟩
    have ll : ((ns.map V.int).length : Int) = (ns.length : Int) := by rw [List.length_map]
    refine ⟨_, rfl, _, _, rfl, rfl, .inl (by constructor <;> decide), _, _, rfl, rfl, ?_⟩
    refine ⟨_, rfl, _, rfl, a, _, rfl, .inl hS, _, _, rfl, rfl, _, rfl, ?_⟩
    refine ite2 (fun c => ?_) (fun c => ?_)
    · have hn : n < ns.length := by
        have z := of_decide_eq_true c
        omega
      obtain ⟨z, hz⟩ := get hn
      refine ⟨_, rfl, _, rfl, a, _, _, _, rfl, rfl, hS, hz, _, rfl, ?_⟩
      exact box_end K n _ a H Q k
    · refine ⟨_, rfl, a, _, rfl, .inl hS, _, _, rfl, rfl, _, rfl, ?_⟩
      refine ite2 (fun c2 => ?_) (fun _ => ?_)
      · have z := of_decide_eq_true c2
        have l0 : 0 < (ns.length : Int) := by omega
        have r0 : 0 ≤ (n : Int) % (ns.length : Int) := Int.emod_nonneg _ (by omega)
        have r1 : (n : Int) % (ns.length : Int) < (ns.length : Int) := Int.emod_lt_of_pos _ l0
        obtain ⟨j, ej⟩ : ∃ j : Nat, (n : Int) % (ns.length : Int) = (j : Int) := ⟨_, (Int.toNat_of_nonneg r0).symm⟩
        obtain ⟨u, hu⟩ := get (j := j) (by omega)
        rw [← ej, ← ll] at hu
        refine ⟨_, rfl, _, rfl, _, rfl, .inl ⟨_, rfl, _, rfl, a, _, rfl, .inl hS, _, _, rfl, rfl, by omega, a, _, _, _, rfl, rfl, hS, hu, _, rfl, .inl ⟨_, rfl, _, _, rfl, rfl, (by show (0 : Int) < 2147483629; decide), _, _, rfl, rfl, .inr (by constructor <;> decide), _, _, rfl, rfl, ?_⟩⟩⟩
        exact box_end K n _ a H Q k
      · exact box_end K n _ a H Q k
end
end K07

set_option Elab.async false
set_option linter.all false
set_option pp.maxSteps 800
set_option pp.deepTerms false
set_option maxRecDepth 100000
set_option maxHeartbeats 8000000
namespace K07
open PySem PySem.Spec PyProof.Rows L2 Say
/-! ### rows -/
def rowsL : Nat → List (List Int)
  | 0 => [[]]
  | n + 1 => (rowsL n).flatMap fun r => [r ++ [0], r ++ [1]]
def rowD (r : List Int) : PyData := .tuple (r.map PyData.int)
theorem row_firm (r : List Int) : firm (rowD r) = true := by
  show firmAll (r.map PyData.int) = true
  exact firmAll_map (fun _ => rfl) r
theorem rows_firm (m : List (List Int)) : firmAll (m.map rowD) = true := firmAll_map row_firm m
theorem rowsL_len : ∀ n, (rowsL n).length = 2 ^ n
  | 0 => rfl
  | n + 1 => by
    have ih := rowsL_len n
    have go : ∀ l : List (List Int), (l.flatMap fun r => [r ++ [0], r ++ [1]]).length = 2 * l.length := by
      intro l
      induction l with
      | nil => rfl
      | cons r l ih =>
        rw [List.flatMap_cons, List.length_append, ih]
        simp only [List.length_cons, List.length_nil]
        omega
    show ((rowsL n).flatMap fun r => [r ++ [0], r ++ [1]]).length = _
    rw [go, ih]
    omega
theorem rowsL_row : ∀ n, ∀ r ∈ rowsL n, r.length = n ∧ ∀ x ∈ r, x = 0 ∨ x = 1
  | 0, r, h => by
    simp only [rowsL, List.mem_singleton] at h
    subst h
    exact ⟨rfl, fun x hx => nomatch hx⟩
  | n + 1, r, h => by
    obtain ⟨q, hq, hr⟩ := List.mem_flatMap.mp h
    obtain ⟨l, b⟩ := rowsL_row n q hq
    simp only [List.mem_cons, List.not_mem_nil, or_false] at hr
    rcases hr with rfl | rfl
    · refine ⟨by simp [l], fun x hx => ?_⟩
      rcases List.mem_append.mp hx with hx | hx
      · exact b x hx
      · simp only [List.mem_singleton] at hx
        exact .inl hx
    · refine ⟨by simp [l], fun x hx => ?_⟩
      rcases List.mem_append.mp hx with hx | hx
      · exact b x hx
      · simp only [List.mem_singleton] at hx
        exact .inr hx
/-- each way of truths is a row -/
theorem rowsL_all (v : Int → Bool) : ∀ n, ((List.range n).map fun i : Nat => if v ((i : Int) + 1) = true then (1 : Int) else 0) ∈ rowsL n
  | 0 => by simp [rowsL]
  | n + 1 => by
    refine List.mem_flatMap.mpr ⟨_, rowsL_all v n, ?_⟩
    rw [List.range_succ, List.map_append]
    by_cases h : v ((n : Int) + 1) = true
    · simp [h]
    · simp [h]
def spRows (K : PySem.W.Frag) : Sp := fun vs H Q _ => ∃ n : Nat, vs = [.int n] ∧ n ≤ 3 ∧ ∀ H' l, Same H H' → H l = none → LD K H' l ((rowsL n).map rowD) → Q (.ref l) H'
theorem row_open {K : PySem.W.Frag} {H : Hp} {v : V} {r : List Int} (h : Dp K H v (rowD r)) : ∃ a, v = .ref a ∧ SqT K H a (r.map V.int) := by
  cases h with
  | tup hs ha =>
    rw [dp_ints ha] at hs
    exact ⟨_, rfl, hs⟩
theorem row_make {K : PySem.W.Frag} {H : Hp} {t : Addr} {r : List Int} (h : SqT K H t (r.map V.int)) : Dp K H (.ref t) (rowD r) := .tup h (ints_dp _)
/-- a row and one more -/
theorem row_more {K : PySem.W.Frag} {H : Hp} {a b : Addr} {r : List Int} {x : Int} {Q : VK} (ha : SqT K H a (r.map V.int)) (hb : H b = some (.tup [.int x])) (l : r.length ≤ 1000) (q : ∀ H' t, Same H H' → Dp K H' (.ref t) (rowD (r ++ [x])) → Q (.ref t) H') : rCatA K (.ref a) (.ref b) H Q := by
  refine ⟨a, b, _, [.int x], rfl, rfl, ha, SqT.of hb, ?_, fun e => ?_, (fun _ e => nomatch e), fun _ _ p hp => ?_⟩
  · have big : 100000 ≤ sizeLine := by decide
    simp only [List.length_map, List.length_cons, List.length_nil]
    omega
  · have er : r = [] := List.map_eq_nil_iff.mp e
    subst er
    exact q H b (same_refl H) (row_make (SqT.of hb))
  · refine q _ p (same_new hp) (row_make (SqT.of ?_))
    rw [List.map_append]
    exact upd_same
section
variable {P : Program} {w : World} {K : PySem.W.Frag} {mg : Str → Option Value} {base : Heap}
def NRows : List Str := ["_law_places", "_law_rows_here", "_law_turn", "_law_longer", "_law_row"]
theorem scRows : FnScope NRows ["_law_places"] (defScope (top 30)) := ⟨rfl, rfl, rfl, by decide +kernel, rfl, by decide +kernel, by decide +kernel⟩
theorem ok_rows (T : Tx K mg) : Fd P w K mg base CX0 1 "_law_rows" ["_law_places"] (spRows K) := by
  obtain ⟨fd, F⟩ := T.F__law_rows
  refine ⟨fd, ?_, F.bindsN fun _ _ _ _ _ _ us hl => match us, hl with | [_], _ => rfl, F.kp⟩
  refine F.ok scRows (fun vs H Q E h => ?_) (fun cdv A ou s H vs Q E hr h => ?_)
  · obtain ⟨n, rfl, _⟩ := h
    rfl
  · obtain ⟨n, rfl, n3, k⟩ := h
    refine ⟨_, PSs.nox (pss_cons (ps_set (i := 1) scRows.nd rfl (Or.inl rfl) (pe_lst (pa_cons (pe_tup pa_nil) pa_nil)))
      (pss_cons (ps_for PassesOwn.never rfl (pi_range1 (by rfl) T.b_range (pa_cons (pv 0) pa_nil)) (pg_name (i := 2) scRows.nd rfl (Or.inl rfl))
        (pss_cons (ps_set (i := 3) scRows.nd rfl (Or.inl rfl) (pe_lst pa_nil))
        (pss_cons (ps_for PassesOwn.never rfl (pi_sq (pv 1)) (pg_name (i := 4) scRows.nd rfl (Or.inl rfl))
          (pss_one (ps_expr (pe_bm PySem.F.plainAttrs_list PySem.F.slot_list_extend PySem.F.type_list_extend mt_extend (pv 3) (pa_cons (pe_lst (pa_cons (pe_op op_catA (pv 4) (pe_tup (pa_cons pe_int pa_nil))) (pa_cons (pe_op op_catA (pv 4) (pe_tup (pa_cons pe_int pa_nil))) pa_nil))) pa_nil)))))
        (pss_one (ps_set (i := 1) scRows.nd rfl (Or.inl rfl) (pv 3))))))
      (pss_one (ps_ret (pv 1))))), ?_⟩
    have big : 100000 ≤ sizeLine := by decide
    refine ⟨(by show 0 ≤ sizeLine; decide), fun t ht => ⟨(by show 1 ≤ sizeLine; decide), fun l0 hl0 => ?_⟩⟩
    have s1 := same_new (o := .tup []) ht
    have s2 := same_new (o := .lst [.ref t]) hl0
    have s12 := same_trans s1 s2
    refine ⟨_, rfl, _, rfl, by omega, by omega, for_range (lo := 0) (n := n) (fun i σ H' => ∃ l x2 x3 x4, σ = [some (.int n), some (.ref l), x2, x3, x4] ∧ Same H H' ∧ H l = none ∧ LD K H' l ((rowsL i).map rowD))
      ⟨l0, _, _, _, rfl, s12, s1.free hl0, ⟨_, upd_same, .cons (row_make (r := []) (SqT.of (s2 _ _ upd_same))) .nil⟩⟩ (fun i σ H1 hi p => ?_) (fun σ H1 p => ?_)⟩
    · obtain ⟨l, x2, x3, x4, rfl, s3, hl, hL⟩ := p
      refine ⟨(by show 0 ≤ sizeLine; decide), fun ln hln => ?_⟩
      have s4 := same_new (o := .lst []) hln
      have s34 := same_trans s3 s4
      have hlnH := s3.free hln
      obtain ⟨rv, hrv, drv⟩ := hL
      have rvl : rv.length = (rowsL i).length := by
        have := dpAll_len drv
        rwa [List.length_map] at this
      have nll : l ≠ ln := ne_of_none hrv hln
      refine ⟨_, rfl, l, rfl, for_sqL (fun j σ H' => (∃ x2 x4, σ = [some (.int n), some (.ref l), x2, some (.ref ln), x4]) ∧ Same H H' ∧ H' l = some (.lst rv) ∧ DpAll K H' rv ((rowsL i).map rowD) ∧ LD K H' ln ((((rowsL i).take j).flatMap fun r => [r ++ [0], r ++ [1]]).map rowD)) (SqL.of (s4 _ _ hrv))
        ⟨⟨_, _, rfl⟩, s34, s4 _ _ hrv, dpAll_mono s4 _ _ drv, LD.new⟩ (fun j σ H' _ p => SqL.of p.2.2.1) (fun j x σ H2 hx p => ?_) (fun σ H2 p => ?_)⟩
      · obtain ⟨⟨x2, x4, rfl⟩, s5, hl5, d5, hL5⟩ := p
        obtain ⟨d, hd, dx⟩ := dpAll_get d5 hx
        rw [List.getElem?_map] at hd
        obtain ⟨r, hr2, rfl⟩ := Option.map_eq_some_iff.mp hd
        obtain ⟨ra, rfl, qr⟩ := row_open dx
        have rl := (rowsL_row i r (List.mem_of_getElem? hr2)).1
        obtain ⟨lv, hlv, _⟩ := id hL5
        refine ⟨_, rfl, .inl ⟨rfl, _, SqL.of hlv⟩, ⟨_, rfl, (by show 1 ≤ sizeLine; decide), fun t1 ht1 => ?_⟩⟩
        have s6 := same_new (o := .tup [.int 0]) ht1
        refine row_more (r := r) (grow_sqT (grow_same s6) qr) upd_same (by omega) fun H3 u1 s7 du1 => ?_
        refine ⟨_, rfl, (by show 1 ≤ sizeLine; decide), fun t2 ht2 => ?_⟩
        have s8 := same_new (o := .tup [.int 1]) ht2
        refine row_more (r := r) (grow_sqT (grow_same (same_trans (same_trans s6 s7) s8)) qr) upd_same (by omega) fun H4 u2 s9 du2 => ?_
        refine ⟨(by show 2 ≤ sizeLine; decide), fun q hq => nil_go ?_⟩
        have s10 := same_new (o := .lst [.ref u1, .ref u2]) hq
        have sall := same_trans (same_trans (same_trans s6 s7) s8) (same_trans s9 s10)
        have s89 := same_trans s8 (same_trans s9 s10)
        have nlq : ln ≠ q := ne_of_none (same_trans (same_trans (same_trans s6 s7) s8) s9 _ _ hlv) hq
        refine ext_data (ds := (((rowsL i).take j).flatMap fun r => [r ++ [0], r ++ [1]]).map rowD) (es := [rowD (r ++ [0]), rowD (r ++ [1])]) (hL5.same sall) ⟨_, upd_same, .cons (dp_mono s89 _ _ du1) (.cons (dp_mono s10 _ _ du2) .nil)⟩ ?_ (rows_firm _) (rows_firm [r ++ [0], r ++ [1]]) fun o ho go => ?_
        · have h1 : (((rowsL i).take j).flatMap fun r => [r ++ [0], r ++ [1]]).length = 2 * ((rowsL i).take j).length := by
            have go : ∀ l : List (List Int), (l.flatMap fun r => [r ++ [0], r ++ [1]]).length = 2 * l.length := by
              intro l
              induction l with
              | nil => rfl
              | cons r l ih =>
                rw [List.flatMap_cons, List.length_append, ih]
                simp only [List.length_cons, List.length_nil]
                omega
            exact go _
          have h2 : ((rowsL i).take j).length ≤ (rowsL i).length := by
            rw [List.length_take]
            omega
          have h3 := rowsL_len i
          have h4 : 2 ^ i ≤ 2 ^ 3 := Nat.pow_le_pow_right (by decide) (by omega)
          rw [List.length_map, h1]
          simp only [List.length_cons, List.length_nil]
          omega
        · have nll2 : l ≠ ln := nll
          refine ⟨⟨_, _, rfl⟩, same_upd (same_trans s5 sall) hlnH, ?_, dpAll_grow go _ _ (rows_firm _) (dpAll_mono sall _ _ d5), ?_⟩
          · rw [upd_ne nll2]
            exact sall _ _ hl5
          · rw [List.take_succ, hr2]
            simp only [Option.toList, List.flatMap_append, List.flatMap_cons, List.flatMap_nil, List.append_nil]
            rw [List.map_append]
            exact ho
      · obtain ⟨⟨x2, x4, rfl⟩, s5, hl5, d5, hL5⟩ := p
        rw [rvl, List.take_length] at hL5
        exact ⟨_, rfl, ln, _, _, _, rfl, s5, hlnH, hL5⟩
    · obtain ⟨l, x2, x3, x4, rfl, s3, hl, hL⟩ := p
      exact ⟨_, rfl, k _ l s3 hl hL⟩
/-! ### the law's own places -/
def spIsPlace (K : PySem.W.Frag) : Sp := fun vs H Q _ => ∃ v d n, vs = [v, .int n] ∧ Dp K H v d ∧ Q (.bl (belowB d n)) H
theorem scIsPlace : FnScope ["_law_value", "_law_many"] ["_law_value", "_law_many"] (defScope (top 32)) := ⟨rfl, rfl, rfl, by decide +kernel, rfl, by decide +kernel, by decide +kernel⟩
theorem ok_place (T : Tx K mg) : Fd P w K mg base CX0 1 "_law_is_place" ["_law_value", "_law_many"] (spIsPlace K) := by
  obtain ⟨fd, F⟩ := T.F__law_is_place
  refine ⟨fd, ?_, F.bindsN fun _ _ _ _ _ _ us hl => match us, hl with | [_, _], _ => rfl, F.kp⟩
  refine F.ok scIsPlace (fun vs H Q E h => ?_) (fun cdv A ou s H vs Q E hr h => ?_)
  · obtain ⟨v, d, n, rfl, _⟩ := h
    rfl
  · obtain ⟨v, d, n, rfl, hd, q⟩ := h
    refine ⟨_, PSs.nox (pss_one (ps_ret (pe_and (pe_isi (T := "int") (pv 0) T.b_isinstance T.b_int (by decide +kernel)) (pe_and (pe_not (pe_isi (T := "bool") (pv 0) T.b_isinstance T.b_bool (by decide +kernel))) (pe_one (pe_chain op_le op_lt pe_int (pv 0) (pv 1))))))), ?_⟩
    cases hd with
    | non => exact isi_var rfl .non (by decide) (isD_int _) ⟨_, rfl, q⟩
    | str x => exact isi_var rfl (.str x) (by decide) (isD_int _) ⟨_, rfl, q⟩
    | lst a b => exact isi_var rfl (.lst a b) (by decide) (isD_int _) ⟨_, rfl, q⟩
    | tup a b => exact isi_var rfl (.tup a b) (by decide) (isD_int _) ⟨_, rfl, q⟩
    | bl b => exact isi_var rfl (.bl b) (by decide) (isD_int _) ⟨_, rfl, isi_var rfl (.bl b) (by decide) (isD_bool _) ⟨_, rfl, _, rfl, q⟩⟩
    | int i =>
      refine isi_var rfl (.int i) (by decide) (isD_int _) ⟨_, rfl, isi_var rfl (.int i) (by decide) (isD_bool _) ⟨_, rfl, _, rfl, ?_⟩⟩
      have e : belowB (.int i) n = (decide (0 ≤ i) && decide (i < n)) := rfl
      rw [e] at q
      refine ⟨_, rfl, _, _, rfl, rfl, _, rfl, ite2 (fun c => ⟨_, rfl, _, _, rfl, rfl, ?_⟩) (fun c => ?_)⟩
      · rw [show decide ((0 : Int) ≤ i) = true from c] at q
        exact q
      · rw [show decide ((0 : Int) ≤ i) = false from Bool.eq_false_iff.mpr c] at q
        exact q
end
end K07

set_option Elab.async false
set_option linter.all false
set_option pp.maxSteps 800
set_option pp.deepTerms false
set_option maxRecDepth 100000
set_option maxHeartbeats 8000000
namespace K07
open PySem PySem.Spec PyProof.Rows L2 Say
/-! ### sheets as they are handed in -/
def shD (p : Pm) : PyData := .tuple [.list (p.1.map PyData.int), .list (p.2.map PyData.int)]
theorem sh_open {K : PySem.W.Frag} {H : Hp} {v : V} {p : Pm} (h : Dp K H v (shD p)) : ∃ t a b, v = .ref t ∧ SqT K H t [.ref a, .ref b] ∧ SqL K H a (p.1.map V.int) ∧ SqL K H b (p.2.map V.int) := by
  cases h with
  | tup hs ha =>
    cases ha with
    | cons h1 h2 =>
      cases h2 with
      | cons h2 h3 =>
        cases h3
        cases h1 with
        | lst s1 a1 =>
          cases h2 with
          | lst s2 a2 =>
            rw [dp_ints a1] at s1
            rw [dp_ints a2] at s2
            exact ⟨_, _, _, rfl, hs, s1, s2⟩
def atR (r : List Int) (x : Int) : Int := r.getD (x - 1).toNat 0
def offL (r : List Int) (k : Int) (xs : List Int) : List Int := xs.filter fun x => decide (atR r x = k)
def awakeB (ps : List Pm) (r : List Int) : Bool := ps.all fun p => !(decide (offL r 0 p.1 = []) && decide (offL r 1 p.2 = []))
theorem off_step {r : List Int} {k : Int} {xs : List Int} {i : Nat} {x : Int} (h : xs[i]? = some x) : offL r k (xs.take (i + 1)) = offL r k (xs.take i) ++ (if decide (atR r x = k) = true then [x] else []) := by
  rw [List.take_succ, h]
  unfold offL
  rw [List.filter_append]
  congr 1
  by_cases c : atR r x = k <;> simp [c]
theorem off_len {r : List Int} {k : Int} {xs : List Int} : (offL r k xs).length ≤ xs.length := List.length_filter_le _ _
theorem row_at {r : List Int} {x : Int} (h1 : 1 ≤ x) (h2 : x ≤ r.length) : atI (r.map V.int) (x - 1) = some (.int (atR r x)) := by
  obtain ⟨n, e⟩ : ∃ n : Nat, x - 1 = (n : Int) := ⟨(x - 1).toNat, by omega⟩
  rw [e]
  refine atI_nat ?_
  have hn : n < r.length := by omega
  have e2 : atR r x = r[n] := by
    unfold atR
    rw [e, List.getD_eq_getElem?_getD, Int.toNat_natCast, List.getElem?_eq_getElem hn]
    rfl
  rw [List.getElem?_map, List.getElem?_eq_getElem hn, e2]
  rfl
theorem ints_shaped (ns : List Int) : SeqAt.shaped (.list (ns.map PyData.int)) = true := by
  unfold SeqAt.shaped
  have h1 : PyData.canLay0 (.list (ns.map PyData.int)) = true := lay_ints ns
  have h2 : PyData.depth (.list (ns.map PyData.int)) ≤ 64 := by
    show PyData.depthAll (ns.map PyData.int) + 1 ≤ 64
    rw [dep_ints]
    omega
  rw [h1, decide_eq_true h2]
  rfl
/-- xs == [], whole numbers -/
theorem eq_nil {K : PySem.W.Frag} {H : Hp} {a b : Addr} {ns : List Int} {Q : VK} (ha : H a = some (.lst (ns.map V.int))) (hb : H b = some (.lst [])) (q : Q (.bl (decide (ns = []))) H) : rEqD K (.ref a) (.ref b) H Q := by
  refine ⟨.list (ns.map PyData.int), .list ([].map PyData.int), .lst (SqL.of ha) (ints_dp ns), .lst (SqL.of hb) .nil, ints_shaped _, ints_shaped _, ?_⟩
  have e : PyData.eqv (.list (ns.map PyData.int)) (.list (([] : List Int).map PyData.int)) = decide (ns = []) := ints_eqv ns []
  rw [e]
  exact q
def spAwake (K : PySem.W.Frag) : Sp := fun vs H Q _ => ∃ (v u : V) (ps : List Pm) (r : List Int), vs = [v, u] ∧ Dp K H v (.list (ps.map shD)) ∧ Dp K H u (rowD r) ∧ (∀ p ∈ ps, (∀ x ∈ p.1, 1 ≤ x ∧ x ≤ r.length) ∧ ∀ x ∈ p.2, 1 ≤ x ∧ x ≤ r.length) ∧ (∀ p ∈ ps, p.1.length ≤ 1000 ∧ p.2.length ≤ 1000) ∧
  ∀ H', Same H H' → Q (.bl (awakeB ps r)) H'
section
variable {P : Program} {w : World} {K : PySem.W.Frag} {mg : Str → Option Value} {base : Heap}
def NAwake : List Str := ["_law_premises", "_law_row", "_law_left", "_law_right", "_law_place"]
theorem scAwake : FnScope NAwake ["_law_premises", "_law_row"] (defScope (top 31)) := ⟨rfl, rfl, rfl, by decide +kernel, rfl, by decide +kernel, by decide +kernel⟩
theorem ok_awake (T : Tx K mg) : Fd P w K mg base CX0 1 "_law_awake" ["_law_premises", "_law_row"] (spAwake K) := by
  obtain ⟨fd, F⟩ := T.F__law_awake
  refine ⟨fd, ?_, F.bindsN fun _ _ _ _ _ _ us hl => match us, hl with | [_, _], _ => rfl, F.kp⟩
  refine F.ok scAwake (fun vs H Q E h => ?_) (fun cdv A ou s H vs Q E hr h => ?_)
  · obtain ⟨v, u, ps, r, rfl, _⟩ := h
    rfl
  · obtain ⟨v, u, ps, r, rfl, hd, hu, hb, hl, k⟩ := h
    refine ⟨_, PSs.nox (pss_cons (ps_for PassesOwn.never rfl (pi_sq (pv 0)) (pg_tup (by rfl) (pgs_cons (pg_name (i := 2) scAwake.nd rfl (Or.inl rfl)) (pgs_cons (pg_name (i := 3) scAwake.nd rfl (Or.inl rfl)) pgs_nil)))
        (pss_one (ps_if (PW.pt (pw_and
            (pt_cmpR (op_eqD hr.units) (pe_lc (own := [("_law_place", 4)]) (g := gName 4) rfl scAwake.nd (pi_sq (pv 2)) (blkOk_by (N := NAwake) (sc := defScope (top 31)) (by decide +kernel)) (fun _ _ _ _ _ => pg_name (i := 4) scAwake.nd rfl (Or.inl rfl))
              (fun _ _ _ _ _ => pts_one (pt_cmpR op_eq (pe_ix (ixK K rfl) (pv 1) (pe_op op_sub (pv 4) pe_int) (fun _ _ => rfl)) pe_int (nomark _))) (fun _ _ _ _ _ => pv 4)) (pe_lst pa_nil) (nomark _))
            (pw_and1 (pt_cmpR (op_eqD hr.units) (pe_lc (own := [("_law_place", 4)]) (g := gName 4) rfl scAwake.nd (pi_sq (pv 3)) (blkOk_by (N := NAwake) (sc := defScope (top 31)) (by decide +kernel)) (fun _ _ _ _ _ => pg_name (i := 4) scAwake.nd rfl (Or.inl rfl))
              (fun _ _ _ _ _ => pts_one (pt_cmpR op_eq (pe_ix (ixK K rfl) (pv 1) (pe_op op_sub (pv 4) pe_int) (fun _ _ => rfl)) pe_int (nomark _))) (fun _ _ _ _ _ => pv 4)) (pe_lst pa_nil) (nomark _)))))
          (pss_one (ps_ret pe_bl)) pss_nil)))
      (pss_one (ps_ret pe_bl))), ?_⟩
    cases hd with
    | @lst a vs2 ds hs ha =>
      obtain ⟨ra, rfl, hra⟩ := row_open hu
      have vl := dpAll_len ha
      have big : 100000 ≤ sizeLine := by decide
      refine ⟨_, rfl, a, rfl, for_sqS (H0 := H) (fun i σ H' => (∃ x2 x3 x4, σ = [some (.ref a), some (.ref ra), x2, x3, x4]) ∧ Same H H' ∧ awakeB (ps.take i) r = true) (.inl hs) ⟨⟨_, _, _, rfl⟩, same_refl H, rfl⟩ (fun i σ H' _ p => p.2.1) (fun i x σ H1 hx p => ?_) (fun σ H1 p => ?_)⟩
      · obtain ⟨⟨x2, x3, x4, rfl⟩, s1, hA⟩ := p
        obtain ⟨d, hd, dx⟩ := dpAll_get ha hx
        rw [List.getElem?_map] at hd
        obtain ⟨p, hp, rfl⟩ := Option.map_eq_some_iff.mp hd
        have pm := List.mem_of_getElem? hp
        obtain ⟨b1, b2⟩ := hb p pm
        obtain ⟨l1, l2⟩ := hl p pm
        obtain ⟨t, q1, q2, rfl, hq, h1, h2⟩ := sh_open (dp_mono s1 _ _ dx)
        refine ⟨t, _, rfl, hq, rfl, _, _, rfl, _, _, rfl, rfl, ?_⟩
        have turn : ∀ {H2 H3 : Hp} {D : Addr} {xs : List Int} {j : Nat} {y : V} {kk : Int}, SqT K H3 ra (r.map V.int) → (∀ x ∈ xs, 1 ≤ x ∧ x ≤ r.length) → xs.length ≤ 1000 → (xs.map V.int)[j]? = some y → H2 D = none → LcI H2 D ((offL r kk (xs.take j)).map V.int) H3 →
            ∃ z, y = .int z ∧ atI (r.map V.int) (z - 1) = some (.int (atR r z)) ∧ (decide (atR r z = kk) = true → ∃ acc, H3 D = some (.lst acc) ∧ acc.length < sizeLine ∧ LcI H2 D ((offL r kk (xs.take (j + 1))).map V.int) (upd H3 D (.lst (acc ++ [.int z])))) ∧
              (¬ decide (atR r z = kk) = true → LcI H2 D ((offL r kk (xs.take (j + 1))).map V.int) H3) := by
          intro H2 H3 D xs j y kk hr3 hx l hy hD pI
          rw [List.getElem?_map] at hy
          obtain ⟨z, hz, rfl⟩ := Option.map_eq_some_iff.mp hy
          obtain ⟨z1, z2⟩ := hx z (List.mem_of_getElem? hz)
          refine ⟨z, rfl, row_at z1 z2, fun c => lci_step pI hD ?_ ?_, fun c => ?_⟩
          · have h1 := off_len (r := r) (k := kk) (xs := xs.take j)
            have h2 : (xs.take j).length ≤ xs.length := by
              rw [List.length_take]
              omega
            rw [List.length_map]
            omega
          · rw [off_step hz, if_pos c, List.map_append]
            rfl
          · rw [off_step hz, if_neg c, List.append_nil]
            exact pI
        refine ⟨_, rfl, q1, rfl, lc_sq (fun i => (offL r 0 (p.1.take i)).map V.int) (.inl h1) rfl (fun D hD j y H3 hy pI => ?_) (fun D H3 hD pI => ?_)⟩
        · obtain ⟨z, rfl, e1, e2, e3⟩ := turn (grow_sqT (grow_same (same_trans s1 pI.1)) hra) b1 l1 hy hD pI
          refine ⟨rfl, ⟨_, rfl, _, rfl, _, _, rfl, rfl, ix_at (.inr (grow_sqT (grow_same (same_trans s1 pI.1)) hra)) e1 ⟨rfl, _, rfl, ?_⟩⟩⟩
          have ed : decide (V.int (atR r z) = V.int 0) = decide (atR r z = 0) := by simp
          rw [ed]
          exact ite2 (fun c => ⟨_, rfl, e2 c⟩) e3
        · rw [List.length_map, List.take_length] at pI
          refine ⟨(by show 0 ≤ sizeLine; decide), fun b hb2 => eq_nil (ns := offL r 0 p.1) (same_new hb2 _ _ pI.2) upd_same ⟨_, rfl, ?_⟩⟩
          have s3 := same_trans s1 (same_trans pI.1 (same_new (o := .lst []) hb2))
          have step : awakeB (ps.take (i + 1)) r = !(decide (offL r 0 p.1 = []) && decide (offL r 1 p.2 = [])) := by
            rw [List.take_succ, hp]
            unfold awakeB at hA ⊢
            rw [List.all_append, hA]
            simp
          refine ite2 (fun c => ?_) (fun c => ?_)
          · refine ⟨_, rfl, q2, rfl, lc_sq (fun i => (offL r 1 (p.2.take i)).map V.int) (same_sq (same_trans pI.1 (same_new (o := .lst []) hb2)) (.inl h2)) rfl (fun D2 hD2 j y H5 hy p5 => ?_) (fun D2 H5 hD2 p5 => ?_)⟩
            · obtain ⟨z, rfl, e1, e2, e3⟩ := turn (grow_sqT (grow_same (same_trans s3 p5.1)) hra) b2 l2 hy hD2 p5
              refine ⟨rfl, ⟨_, rfl, _, rfl, _, _, rfl, rfl, ix_at (.inr (grow_sqT (grow_same (same_trans s3 p5.1)) hra)) e1 ⟨rfl, _, rfl, ?_⟩⟩⟩
              have ed : decide (V.int (atR r z) = V.int 1) = decide (atR r z = 1) := by simp
              rw [ed]
              exact ite2 (fun c => ⟨_, rfl, e2 c⟩) e3
            · rw [List.length_map, List.take_length] at p5
              refine ⟨(by show 0 ≤ sizeLine; decide), fun b2 hb3 => eq_nil (ns := offL r 1 p.2) (same_new hb3 _ _ p5.2) upd_same ⟨_, rfl, ?_⟩⟩
              have s5 := same_trans s3 (same_trans p5.1 (same_new (o := .lst []) hb3))
              refine ite2 (fun c2 => ?_) (fun c2 => ?_)
              · have e : awakeB ps r = false := by
                  unfold awakeB
                  rw [List.all_eq_false]
                  exact ⟨p, pm, by rw [c, c2]; decide⟩
                rw [e] at k
                exact k _ s5
              · refine ⟨⟨_, _, _, rfl⟩, s5, ?_⟩
                rw [step, Bool.eq_false_iff.mpr c2]
                simp
          · refine ⟨⟨_, _, _, rfl⟩, s3, ?_⟩
            rw [step, Bool.eq_false_iff.mpr c]
            rfl
      · obtain ⟨⟨x2, x3, x4, rfl⟩, s1, hA⟩ := p
        have lp : vs2.length = ps.length := by rw [vl, List.length_map]
        rw [lp, List.take_length] at hA
        rw [hA] at k
        exact k _ s1
end
end K07

set_option Elab.async false
set_option linter.all false
set_option pp.maxSteps 800
set_option pp.deepTerms false
set_option maxRecDepth 100000
set_option maxHeartbeats 8000000
namespace K07
open PySem PySem.Spec PyProof.Rows L2 Say
def rTup (K : PySem.W.Frag) : List V → Hp → VK → Prop := fun xs H Q => ∃ p ys, xs = [.ref p] ∧ ((SqL K H p ys ∧ ∀ l, H l = none → Q (.ref l) (upd H l (.tup ys))) ∨ (SqT K H p ys ∧ Q (.ref p) H))
/-- tuple(sorted(set(xs))) -/
theorem lot_go {K : PySem.W.Frag} {w : World} {H : Hp} {a : Addr} {ns : List Int} {Q : VK} (hS : Sq K H a (ns.map V.int)) (hn : ns.length < 64) (q : ∀ H' t, Same H H' → H t = none → H' t = some (.tup ((ordI ns).map V.int)) → Q (.ref t) H') :
    rSetI K w [.ref a] H fun v1 H1 => rSortedSet w [v1] H1 fun v2 H2 => rTup K [v2] H2 Q := by
  refine ⟨a, ns, rfl, hS, by omega, fun p c hp hc => ⟨p, _, c, rfl, upd_same, by omega, fun ms l h1 h2 h3 hl => ⟨l, _, rfl, .inl ⟨SqL.of upd_same, fun t ht => ?_⟩⟩⟩⟩
  have hlH : H l = none := by
    by_cases e : l = p
    · rw [e]
      exact hp
    · rw [upd_ne e] at hl
      exact hl
  have htH : H t = none := by
    by_cases e : t = l
    · rw [e]
      exact hlH
    · rw [upd_ne e] at ht
      by_cases e2 : t = p
      · rw [e2]
        exact hp
      · rw [upd_ne e2] at ht
        exact ht
  refine q _ t ?_ htH (by rw [← ordI_of h1 (fun k => (h2 k).trans (by simp))]; exact upd_same)
  exact same_upd (same_upd (same_upd (fun _ _ z => z) hp) hlH) htH
theorem lot_te {K : PySem.W.Frag} {w : World} {σ : L2.St} {i : Nat} {H : Hp} {a : Addr} {ns : List Int} {Q : VK} (e : σ[i]? = some (some (.ref a))) (hS : Sq K H a (ns.map V.int)) (hn : ns.length < 64) (q : ∀ H' t, Same H H' → H t = none → H' t = some (.tup ((ordI ns).map V.int)) → Q (.ref t) H') :
    tCB (rTup K) (tCons (tCB (rSortedSet w) (tCons (tCB (rSetI K w) (tCons (tVar i) tNil)) tNil)) tNil) σ H Q := ⟨_, e, lot_go hS hn q⟩
theorem cat_go {K : PySem.W.Frag} {H : Hp} {a b : Addr} {xs ys : List V} {Q : VK} (ha : SqT K H a xs) (hb : SqT K H b ys) (l : xs.length + ys.length ≤ 1000) (q : ∀ H' t, Same H H' → SqT K H' t (xs ++ ys) → Q (.ref t) H') : rCatA K (.ref a) (.ref b) H Q := by
  have big : 100000 ≤ sizeLine := by decide
  refine ⟨a, b, xs, ys, rfl, rfl, ha, hb, by omega, fun e => ?_, fun _ e => ?_, fun _ _ p hp => q _ p (same_new hp) (SqT.of upd_same)⟩
  · subst e
    exact q H b (same_refl H) hb
  · subst e
    rw [List.append_nil] at q
    exact q H a (same_refl H) ha
/-- a sheet in order -/
def norm (p : Pm) : Pm := (ordI p.1, ordI p.2)
theorem pg_tupK {X : Cx} {es : List Expr} {k : Nat} {t : TGs} {n : Nat} {pos : Pos} (K : PySem.W.Frag) (e : X.K = K) (hc : X.calm = true) (h : PGs X es t) (hn : (assignEach es X.env).length = n := by rfl) (hst : (assignEach es X.env).findIdx? (·.1) = none := by rfl) : PG X (.Tuple es k pos) (gTup K n t) := e ▸ pg_tup hc h hn hst
def spWalked (K : PySem.W.Frag) : Sp := fun vs H Q _ => ∃ (v u : V) (ps : List Pm) (d : PyData), vs = [v, u] ∧ Dp K H v (.list (ps.map shD)) ∧ Dp K H u d ∧ (∀ ds, d = .tuple ds → ds.length ≤ 60) ∧ (∀ p ∈ ps, can3 (norm p) ∧ p.1.length < 64 ∧ p.2.length < 64) ∧ ps.length ≤ 200 ∧
  (broughtD (ps.map norm) d = none → ∀ H', Same H H' → Q .non H') ∧ ∀ fs, broughtD (ps.map norm) d = some fs → ∀ H' t, Same H H' → H t = none → LD K H' t (fs.map pmD) → Q (.ref t) H'
theorem four {x : Int} {p q : Pm} (hp : can3 p) (hc : canB p q x = true) : 1 ≤ x ∧ x ≤ 3 := hp.2.2 x (canB_iff.mp hc).1
section
variable {P : Program} {w : World} {K : PySem.W.Frag} {mg : Str → Option Value} {base : Heap}
def NWalked : List Str := ["_law_sheets", "_law_value", "_law_left", "_law_right", "_law_found", "_law_step", "_law_one", "_law_other", "_law_place", "_law_spot"]
theorem scWalked : FnScope NWalked ["_law_sheets", "_law_value"] (defScope (top 33)) := ⟨rfl, rfl, rfl, by decide +kernel, rfl, by decide +kernel, by decide +kernel⟩
theorem ok_walked (T : Tx K mg) : Fd P w K mg base CX0 2 "_law_walked" ["_law_sheets", "_law_value"] (spWalked K) := by
  obtain ⟨fd, F⟩ := T.F__law_walked
  refine ⟨fd, ?_, F.bindsN fun _ _ _ _ _ _ us hl => match us, hl with | [_, _], _ => rfl, F.kp⟩
  refine F.ok scWalked (fun vs H Q E h => ?_) (fun cdv A ou s H vs Q E hr h => ?_)
  · obtain ⟨v, u, ps, d, rfl, _⟩ := h
    rfl
  · obtain ⟨v, u, ps, d, rfl, hd, hu, d60, hc, p200, kn, ks⟩ := h
    refine ⟨_, PSs.nox (pss_cons (ps_setLc (i := 4) (own := [("_law_left", 2), ("_law_right", 3)]) (tt := tYes) rfl scWalked.nd rfl rfl (sw_true rfl rfl rfl (by decide +kernel)) (pi_sq (pv 0)) (blkOk_by (N := NWalked) (sc := defScope (top 33)) (by decide +kernel))
          (fun _ _ _ _ _ => pg_tupK (n := 2) K rfl (by rfl) (pgs_cons (pg_name (i := 2) scWalked.nd rfl (Or.inl rfl)) (pgs_cons (pg_name (i := 3) scWalked.nd rfl (Or.inl rfl)) pgs_nil))) (fun _ _ _ _ _ => pts_nil)
          (fun _ _ _ _ _ => pe_tup (pa_cons (pe_callTy (show CallR _ _ (rTup K) from call_tuple_of) (by rfl) T.b_tuple (by decide +kernel) (pa_cons (pe_callB (show CallR _ _ (rSortedSet w) from cr_sortedSet (by rfl)) (by rfl) T.b_sorted (by decide +kernel) (pa_cons (pe_callTy (show CallR _ _ (rSetI K w) from cr_setI (by rfl)) (by rfl) T.b_set (by decide +kernel) (pa_cons (pv 2) pa_nil)) pa_nil)) pa_nil))
            (pa_cons (pe_callTy (show CallR _ _ (rTup K) from call_tuple_of) (by rfl) T.b_tuple (by decide +kernel) (pa_cons (pe_callB (show CallR _ _ (rSortedSet w) from cr_sortedSet (by rfl)) (by rfl) T.b_sorted (by decide +kernel) (pa_cons (pe_callTy (show CallR _ _ (rSetI K w) from cr_setI (by rfl)) (by rfl) T.b_set (by decide +kernel) (pa_cons (pv 3) pa_nil)) pa_nil)) pa_nil)) pa_nil))))
      (pss_cons (ps_if (PW.pt (pw_or (pt_not (pt_val (pe_isi (T := "tuple") (pv 1) T.b_isinstance T.b_tuple (by decide +kernel)))) (pw_or1 (pt_cmpR op_gt (pe_callB call_len_seq (by rfl) T.b_len PySem.boot_len (pa_cons (pv 1) pa_nil)) pe_int (nomark _))))) (pss_one (ps_ret pe_non)) pss_nil)
      (pss_cons (ps_for PassesOwn.never rfl (pi_sq (pv 1)) (pg_name (i := 5) scWalked.nd rfl (Or.inl rfl))
        (pss_cons (ps_if (PW.pt (pw_or (pt_not (pt_val (pe_isi (T := "tuple") (pv 5) T.b_isinstance T.b_tuple (by decide +kernel)))) (pw_or (pt_cmpR op_ne (pe_callB call_len_seq (by rfl) T.b_len PySem.boot_len (pa_cons (pv 5) pa_nil)) pe_int (nomark _))
            (pw_or1 (pt_not (pt_val (pe_fd (ok_place T) hr rfl T.g__law_is_place pass0 (pa_cons (pe_ix ix_sq (pv 5) pe_int (fun _ _ => rfl)) (pa_cons pe_int pa_nil))))))))) (pss_one (ps_ret pe_non)) pss_nil)
        (pss_cons (ps_if (PW.pt (pw_or (pt_not (pt_val (pe_fd (ok_place T) hr rfl T.g__law_is_place pass0 (pa_cons (pe_ix ix_sq (pv 5) pe_int (fun _ _ => rfl)) (pa_cons (pe_callB call_len_seq (by rfl) T.b_len PySem.boot_len (pa_cons (pv 4) pa_nil)) pa_nil)))))
            (pw_or1 (pt_not (pt_val (pe_fd (ok_place T) hr rfl T.g__law_is_place pass0 (pa_cons (pe_ix ix_sq (pv 5) pe_int (fun _ _ => rfl)) (pa_cons (pe_callB call_len_seq (by rfl) T.b_len PySem.boot_len (pa_cons (pv 4) pa_nil)) pa_nil)))))))) (pss_one (ps_ret pe_non)) pss_nil)
        (pss_cons (ps_asg (pe_tup (pa_cons (pe_ix ix_sq (pv 4) (pe_ix ix_sq (pv 5) pe_int (fun _ _ => rfl)) (fun _ _ => rfl)) (pa_cons (pe_ix ix_sq (pv 4) (pe_ix ix_sq (pv 5) pe_int (fun _ _ => rfl)) (fun _ _ => rfl)) (pa_cons (pe_ix ix_sq (pv 5) pe_int (fun _ _ => rfl)) pa_nil))))
            (pg_tup (by rfl) (pgs_cons (pg_name (i := 6) scWalked.nd rfl (Or.inl rfl)) (pgs_cons (pg_name (i := 7) scWalked.nd rfl (Or.inl rfl)) (pgs_cons (pg_name (i := 8) scWalked.nd rfl (Or.inr rfl)) pgs_nil)))))
        (pss_cons (ps_if (PW.pt (pw_or (pt_cmpR op_notIn_seq (pv 8) (pe_ix ix_sq (pv 6) pe_int (fun _ _ => rfl)) rfl) (pw_or1 (pt_cmpR op_notIn_seq (pv 8) (pe_ix ix_sq (pv 7) pe_int (fun _ _ => rfl)) rfl)))) (pss_one (ps_ret pe_non)) pss_nil)
        (pss_cons (ps_set (i := 2) scWalked.nd rfl (Or.inl rfl) (pe_op op_catA (pe_ix ix_sq (pv 6) pe_int (fun _ _ => rfl)) (pe_callTy (show CallR _ _ (rTup K) from call_tuple_of) (by rfl) T.b_tuple (by decide +kernel) (pa_cons
            (pe_lc (own := [("_law_spot", 9)]) (g := gName 9) rfl scWalked.nd (pi_sq (pe_ix ix_sq (pv 7) pe_int (fun _ _ => rfl))) (blkOk_by (N := NWalked) (sc := defScope (top 33)) (by decide +kernel)) (fun _ _ _ _ _ => pg_name (i := 9) scWalked.nd rfl (Or.inl rfl)) (fun _ _ _ _ _ => pts_one (pt_cmpR op_ne (pv 9) (pv 8) (nomark _))) (fun _ _ _ _ _ => pv 9)) pa_nil))))
        (pss_cons (ps_set (i := 3) scWalked.nd rfl (Or.inl rfl) (pe_op op_catA (pe_callTy (show CallR _ _ (rTup K) from call_tuple_of) (by rfl) T.b_tuple (by decide +kernel) (pa_cons
            (pe_lc (own := [("_law_spot", 9)]) (g := gName 9) rfl scWalked.nd (pi_sq (pe_ix ix_sq (pv 6) pe_int (fun _ _ => rfl))) (blkOk_by (N := NWalked) (sc := defScope (top 33)) (by decide +kernel)) (fun _ _ _ _ _ => pg_name (i := 9) scWalked.nd rfl (Or.inl rfl)) (fun _ _ _ _ _ => pts_one (pt_cmpR op_ne (pv 9) (pv 8) (nomark _))) (fun _ _ _ _ _ => pv 9)) pa_nil)) (pe_ix ix_sq (pv 7) pe_int (fun _ _ => rfl))))
          (pss_one (ps_expr (pe_bm PySem.F.plainAttrs_list PySem.F.slot_list_append PySem.F.type_list_append mt_append (pv 4) (pa_cons (pe_tup (pa_cons (pe_callTy (show CallR _ _ (rTup K) from call_tuple_of) (by rfl) T.b_tuple (by decide +kernel) (pa_cons (pe_callB (cr_sortedSet (by rfl)) (by rfl) T.b_sorted (by decide +kernel) (pa_cons (pe_callTy (cr_setI (by rfl)) (by rfl) T.b_set (by decide +kernel) (pa_cons (pv 2) pa_nil)) pa_nil)) pa_nil))
            (pa_cons (pe_callTy (show CallR _ _ (rTup K) from call_tuple_of) (by rfl) T.b_tuple (by decide +kernel) (pa_cons (pe_callB (cr_sortedSet (by rfl)) (by rfl) T.b_sorted (by decide +kernel) (pa_cons (pe_callTy (cr_setI (by rfl)) (by rfl) T.b_set (by decide +kernel) (pa_cons (pv 3) pa_nil)) pa_nil)) pa_nil)) pa_nil))) pa_nil)))))))))))
      (pss_one (ps_ret (pv 4)))))), ?_⟩
    have big : 100000 ≤ sizeLine := by decide
    cases hd with
    | @lst a vs2 ds0 hs ha =>
    have vl := dpAll_len ha
    rw [List.length_map] at vl
    refine ⟨_, rfl, a, rfl, lc_sqD (fun i => ((ps.take i).map norm).map pmD) (.inl hs) rfl (fun D hD j y H3 hy pI => ?_) (fun l H3 hl pI => ?_)⟩
    · obtain ⟨dx, hdx, px⟩ := dpAll_get ha hy
      rw [List.getElem?_map] at hdx
      obtain ⟨p, hp, rfl⟩ := Option.map_eq_some_iff.mp hdx
      obtain ⟨c1, c2, c3⟩ := hc p (List.mem_of_getElem? hp)
      obtain ⟨t, q1, q2, rfl, hq, h1, h2⟩ := sh_open (dp_mono pI.1 _ _ px)
      refine ⟨t, _, rfl, hq, rfl, _, _, rfl, _, _, rfl, rfl, rfl, ?_⟩
      refine lot_te (i := 2) rfl (.inl h1) c2 fun H4 t1 s4 n4 e4 => ?_
      refine lot_te (i := 3) rfl (.inl (s4.seq h2)) c3 fun H5 t2 s5 n5 e5 => ?_
      refine ⟨(by show 2 ≤ sizeLine; decide), fun t3 ht3 => ?_⟩
      have s6 := same_new (o := .tup [.ref t1, .ref t2]) ht3
      refine lcd_step (d := pmD (norm p)) pI (same_trans s4 (same_trans s5 s6)) hD ?_ (pms_firm _) (pm_firm _) (pm_make upd_same (s6 _ _ (s5 _ _ e4)) (s6 _ _ e5)) ?_
      · have h2 : (ps.take j).length ≤ ps.length := by
          rw [List.length_take]
          omega
        rw [List.length_map, List.length_map]
        omega
      · rw [List.take_succ, hp, List.map_append, List.map_append]
        rfl
    · rw [vl, List.take_length] at pI
      have s0 := pI.1
      cases hu with
      | non => exact isi_var rfl .non (by decide) (isD_tuple _) ⟨_, rfl, iteT (kn rfl _ s0)⟩
      | bl b => exact isi_var rfl (.bl b) (by decide) (isD_tuple _) ⟨_, rfl, iteT (kn rfl _ s0)⟩
      | int b => exact isi_var rfl (.int b) (by decide) (isD_tuple _) ⟨_, rfl, iteT (kn rfl _ s0)⟩
      | str b => exact isi_var rfl (.str b) (by decide) (isD_tuple _) ⟨_, rfl, iteT (kn rfl _ s0)⟩
      | lst q1 q2 => exact isi_var rfl (.lst (s0.seq q1) (dpAll_mono s0 _ _ q2)) (by decide) (isD_tuple _) ⟨_, rfl, iteT (kn rfl _ s0)⟩
      | @tup b ws ds hw hds =>
      have l60 := d60 ds rfl
      have wl := dpAll_len hds
      have hw3 := grow_sqT (grow_same s0) hw
      refine isi_var rfl (.tup hw3 (dpAll_mono s0 _ _ hds)) (by decide) (isD_tuple _) ⟨_, rfl, iteF ⟨_, rfl, b, ws, rfl, .inr hw3, _, _, rfl, rfl, _, rfl, ite2 (fun c => ?_) (fun _ => ?_)⟩⟩
      · have := of_decide_eq_true c
        omega
      refine ⟨_, rfl, b, rfl, for_sqS (H0 := H) (fun i σ H' => (∃ x2 x3 x5 x6 x7 x8 x9, σ = [some (.ref a), some (.ref b), x2, x3, some (.ref l), x5, x6, x7, x8, x9]) ∧ Same H H' ∧ ∃ fs : List Pm, LD K H' l (fs.map pmD) ∧ (∀ p ∈ fs, can3 p) ∧ fs.length = ps.length + i ∧ walkD (ds.drop i) fs = walkD ds (ps.map norm)) (.inr hw)
        ⟨⟨_, _, _, _, _, _, _, rfl⟩, s0, ps.map norm, pI.2, fun p hp => ?_, by rw [List.length_map]; rfl, rfl⟩ (fun i σ H' _ p => p.2.1) (fun i x σ H' hx p => ?_) (fun σ H' p => ?_)⟩
      · obtain ⟨q, hq, rfl⟩ := List.mem_map.mp hp
        exact (hc q hq).1
      · obtain ⟨⟨x2, x3, x5, x6, x7, x8, x9, rfl⟩, s1, fs, hL, cf, lf, hW⟩ := p
        obtain ⟨dx, hdx, px⟩ := dpAll_get hds hx
        have il : i < ds.length := (List.getElem?_eq_some_iff.mp hdx).1
        have edrop : ds.drop i = dx :: ds.drop (i + 1) := by
          rw [List.drop_eq_getElem_cons il]
          congr 1
          rw [List.getElem?_eq_getElem il] at hdx
          exact Option.some.inj hdx
        rw [edrop] at hW
        have hW' : (match stpOf fs.length dx with | none => none | some t => if canB (gp fs t.1) (gp fs t.2.1) t.2.2 = true then walkD (ds.drop (i + 1)) (fs ++ [stepP (gp fs t.1) (gp fs t.2.1) t.2.2]) else none) = walkD ds (ps.map norm) := hW
        have px1 := dp_mono s1 _ _ px
        have out : stpOf fs.length dx = none → broughtD (ps.map norm) (.tuple ds) = none := fun z => by
          rw [z] at hW'
          exact hW'.symm
        cases px1 with
        | non => exact isi_var rfl .non (by decide) (isD_tuple _) ⟨_, rfl, iteT (kn (out rfl) _ s1)⟩
        | bl b => exact isi_var rfl (.bl b) (by decide) (isD_tuple _) ⟨_, rfl, iteT (kn (out rfl) _ s1)⟩
        | int b => exact isi_var rfl (.int b) (by decide) (isD_tuple _) ⟨_, rfl, iteT (kn (out rfl) _ s1)⟩
        | str b => exact isi_var rfl (.str b) (by decide) (isD_tuple _) ⟨_, rfl, iteT (kn (out rfl) _ s1)⟩
        | lst q1 q2 => exact isi_var rfl (.lst q1 q2) (by decide) (isD_tuple _) ⟨_, rfl, iteT (kn (out rfl) _ s1)⟩
        | @tup c zs es hz hes =>
          have zl := dpAll_len hes
          refine isi_var rfl (.tup hz hes) (by decide) (isD_tuple _) ⟨_, rfl, iteF ⟨_, rfl, c, zs, rfl, .inr hz, rfl, _, rfl, ?_⟩⟩
          refine ite2 (fun c1 => ?_) (fun c1 => ?_)
          · refine kn (out (stpOf_short fun z => ?_)) _ s1
            rw [zl, z] at c1
            cases c1
          · have l3 : zs.length = 3 := by
              have c2 : decide (V.int (zs.length : Int) = V.int 3) = true := by simpa using c1
              have c3' := of_decide_eq_true c2
              simp only [V.int.injEq] at c3'
              omega
            obtain ⟨d1, d2, d3, z1, z2, z3, rfl, rfl, p1, p2, p3⟩ := dp_three hes l3
            rw [stpOf_three] at hW'
            have outs : ¬ (belowB d1 fs.length = true ∧ belowB d2 fs.length = true ∧ numB d3 = true) → broughtD (ps.map norm) (.tuple ds) = none := fun z => by
              rw [if_neg z] at hW'
              exact hW'.symm
            -- the place is one of four
            refine ixv rfl (.inr hz) rfl ⟨z3, d3, 4, rfl, p3, _, rfl, ?_⟩
            refine ite2 (fun c4 => ?_) (fun c4 => ?_)
            · refine kn ?_ _ s1
              by_cases all3 : belowB d1 fs.length = true ∧ belowB d2 fs.length = true ∧ numB d3 = true
              · rw [if_pos all3] at hW'
                obtain ⟨b1, b2, b3⟩ := all3
                cases p1 with
                | int i1 =>
                  cases p2 with
                  | int i2 =>
                    cases p3 with
                    | int i3 =>
                      simp only [belowB, Bool.and_eq_true, decide_eq_true_eq] at b1 b2
                      have l1 : i1.toNat < fs.length := by omega
                      have h4 : ¬ belowB (.int i3) 4 = true := fun z => by
                        rw [z] at c4
                        cases c4
                      simp only [belowB, Bool.and_eq_true, decide_eq_true_eq] at h4
                      have h0 : 0 ≤ i3 := by simpa [numB] using b3
                      have nc : ¬ canB (gp fs i1.toNat) (gp fs i2.toNat) i3 = true := fun z => by
                        have := four (cf _ (gp_mem l1)) z
                        omega
                      have hW2 : (if canB (gp fs i1.toNat) (gp fs i2.toNat) i3 = true then walkD (ds.drop (i + 1)) (fs ++ [stepP (gp fs i1.toNat) (gp fs i2.toNat) i3]) else none) = walkD ds (ps.map norm) := hW'
                      rw [if_neg nc] at hW2
                      exact hW2.symm
                    | _ => cases b3
                  | _ => cases b2
                | _ => cases b1
              · exact outs all3
            have b3' : belowB d3 4 = true := by simpa using c4
            obtain ⟨lv, hlv, dlv⟩ := id hL
            have ll : lv.length = fs.length := by
              have := dpAll_len dlv
              rwa [List.length_map] at this
            refine ixv rfl (.inr hz) rfl ⟨_, rfl, l, lv, rfl, .inl (SqL.of hlv), z1, d1, _, rfl, p1, _, rfl, ?_⟩
            rw [ll]
            refine ite2 (fun c5 => ?_) (fun c5 => ?_)
            · refine kn (outs fun z => ?_) _ s1
              have := z.1
              simp [this] at c5
            have b1 : belowB d1 fs.length = true := by simpa using c5
            refine ixv rfl (.inr hz) rfl ⟨_, rfl, l, lv, rfl, .inl (SqL.of hlv), z2, d2, _, rfl, p2, _, rfl, ?_⟩
            rw [ll]
            refine ite2 (fun c6 => ?_) (fun c6 => ?_)
            · refine kn (outs fun z => ?_) _ s1
              have := z.2.1
              simp [this] at c6
            have b2 : belowB d2 fs.length = true := by simpa using c6
            cases p1 with
            | int i1 =>
              cases p2 with
              | int i2 =>
                cases p3 with
                | int i3 =>
                  have b3 : numB (.int i3) = true := by
                    simp only [belowB, Bool.and_eq_true, decide_eq_true_eq] at b3'
                    simpa [numB] using b3'.1
                  rw [if_pos ⟨b1, b2, b3⟩] at hW'
                  simp only [belowB, Bool.and_eq_true, decide_eq_true_eq] at b1 b2
                  obtain ⟨n1, rfl⟩ : ∃ n : Nat, i1 = (n : Int) := ⟨i1.toNat, by omega⟩
                  obtain ⟨n2, rfl⟩ : ∃ n : Nat, i2 = (n : Int) := ⟨i2.toNat, by omega⟩
                  have l1 : n1 < fs.length := by omega
                  have l2 : n2 < fs.length := by omega
                  have hW2 : (if canB (gp fs n1) (gp fs n2) i3 = true then walkD (ds.drop (i + 1)) (fs ++ [stepP (gp fs n1) (gp fs n2) i3]) else none) = walkD ds (ps.map norm) := hW'
                  obtain ⟨m1v, u1, q1, q2, q3⟩ := made_at hL l1
                  obtain ⟨m2v, u2, q4, q5, q6⟩ := made_at hL l2
                  obtain ⟨t1, e1, f1, rfl, T1, T2, T3⟩ := pm_open q3
                  obtain ⟨t2, e2, f2, rfl, T4, T5, T6⟩ := pm_open q6
                  have k1 := can_len (cf _ (gp_mem l1))
                  have k2 := can_len (cf _ (gp_mem l2))
                  refine ⟨_, rfl, ixv rfl (.inr hz) rfl (ix_at (.inl q1) q2 ⟨_, rfl, ixv rfl (.inr hz) rfl (ix_at (.inl q4) q5 (ixv rfl (.inr hz) rfl ⟨(by show 3 ≤ sizeLine; decide), fun tt htt => ?_⟩))⟩)⟩
                  have s2 := same_new (o := .tup [.ref t1, .ref t2, .int i3]) htt
                  have g2 := grow_same s2
                  refine ⟨tt, _, rfl, SqT.of upd_same, rfl, _, _, rfl, _, _, rfl, _, _, rfl, rfl, ?_⟩
                  have nocan : canB (gp fs n1) (gp fs n2) i3 = false → broughtD (ps.map norm) (.tuple ds) = none := fun z => by
                    rw [if_neg (by rw [z]; exact Bool.false_ne_true)] at hW2
                    exact hW2.symm
                  refine ⟨_, rfl, ixv rfl (.inr (grow_sqT g2 T1)) rfl (notIn_ints (.inr (grow_sqT g2 T3)) ⟨_, rfl, ?_⟩)⟩
                  refine ite2 (fun c7 => ?_) (fun c7 => ?_)
                  · refine kn (nocan ?_) _ (same_trans s1 s2)
                    have : decide (i3 ∈ (gp fs n1).2) = false := by simpa using c7
                    unfold canB
                    rw [this]
                    rfl
                  have in1 : decide (i3 ∈ (gp fs n1).2) = true := by simpa using c7
                  refine ⟨_, rfl, ixv rfl (.inr (grow_sqT g2 T4)) rfl (notIn_ints (.inr (grow_sqT g2 T5)) ⟨_, rfl, ?_⟩)⟩
                  refine ite2 (fun c8 => ?_) (fun c8 => ?_)
                  · refine kn (nocan ?_) _ (same_trans s1 s2)
                    have : decide (i3 ∈ (gp fs n2).1) = false := by simpa using c8
                    unfold canB
                    rw [this, Bool.and_false]
                  have in2 : decide (i3 ∈ (gp fs n2).1) = true := by simpa using c8
                  have hcan : canB (gp fs n1) (gp fs n2) i3 = true := by
                    unfold canB
                    rw [in1, in2]
                    rfl
                  rw [if_pos hcan] at hW2
                  have turn : ∀ {H2 H3 : Hp} {D : Addr} {xs : List Int} {j : Nat} {y : V}, xs.length ≤ 3 → (xs.map V.int)[j]? = some y → H2 D = none → LcI H2 D ((but i3 (xs.take j)).map V.int) H3 →
                      ∃ z, y = .int z ∧ ((!decide (V.int z = V.int i3)) = true → ∃ acc, H3 D = some (.lst acc) ∧ acc.length < sizeLine ∧ LcI H2 D ((but i3 (xs.take (j + 1))).map V.int) (upd H3 D (.lst (acc ++ [.int z])))) ∧
                        (¬ (!decide (V.int z = V.int i3)) = true → LcI H2 D ((but i3 (xs.take (j + 1))).map V.int) H3) := by
                    intro H2 H3 D xs j y l hy hD pI
                    rw [List.getElem?_map] at hy
                    obtain ⟨z, hz, rfl⟩ := Option.map_eq_some_iff.mp hy
                    refine ⟨z, rfl, ?_⟩
                    rw [ne_place]
                    refine ⟨fun c => lci_step pI hD ?_ ?_, fun c => ?_⟩
                    · have h1 : (but i3 (xs.take j)).length ≤ (xs.take j).length := but_len
                      have h2 : (xs.take j).length ≤ xs.length := by
                        rw [List.length_take]
                        omega
                      rw [List.length_map]
                      omega
                    · rw [but_step hz, if_pos c, List.map_append]
                      rfl
                    · rw [but_step hz, if_neg c, List.append_nil]
                      exact pI
                  -- left
                  refine ixv rfl (.inr (grow_sqT g2 T1)) rfl (ixv rfl (.inr (grow_sqT g2 T4)) rfl ⟨e2, rfl, lc_sq (fun i => (but i3 ((gp fs n2).1.take i)).map V.int) (.inr (grow_sqT g2 T5)) rfl (fun D hD j y H5 hy pI => ?_) (fun D1 H5 hD1 p5 => ?_)⟩)
                  · obtain ⟨z, rfl, k3, k4⟩ := turn k2.1 hy hD pI
                    exact ⟨rfl, _, rfl, _, rfl, rfl, _, rfl, ite2 (fun c => ⟨_, rfl, k3 c⟩) k4⟩
                  rw [List.length_map, List.take_length] at p5
                  refine ⟨D1, _, rfl, .inl ⟨SqL.of p5.2, fun t3 ht3 => ?_⟩⟩
                  have s3 := same_new (o := .tup ((but i3 (gp fs n2).1).map V.int)) ht3
                  have s23 := same_trans s2 (same_trans p5.1 s3)
                  have bl1 : (but i3 (gp fs n2).1).length ≤ (gp fs n2).1.length := but_len
                  have bl2 : (but i3 (gp fs n1).2).length ≤ (gp fs n1).2.length := but_len
                  refine cat_go (grow_sqT (grow_same s23) T2) (SqT.of upd_same) (by simp only [List.length_map]; omega) fun H6 tL s6 hL6 => ?_
                  rw [← List.map_append] at hL6
                  have s26 := same_trans s23 s6
                  -- right
                  refine ixv rfl (.inr (grow_sqT (grow_same s26) T1)) rfl ⟨f1, rfl, lc_sq (fun i => (but i3 ((gp fs n1).2.take i)).map V.int) (.inr (grow_sqT (grow_same s26) T3)) rfl (fun D hD j y H7 hy pI => ?_) (fun D2 H7 hD2 p7 => ?_)⟩
                  · obtain ⟨z, rfl, k3, k4⟩ := turn k1.2 hy hD pI
                    exact ⟨rfl, _, rfl, _, rfl, rfl, _, rfl, ite2 (fun c => ⟨_, rfl, k3 c⟩) k4⟩
                  rw [List.length_map, List.take_length] at p7
                  refine ⟨D2, _, rfl, .inl ⟨SqL.of p7.2, fun t4 ht4 => ?_⟩⟩
                  have s8 := same_new (o := .tup ((but i3 (gp fs n1).2).map V.int)) ht4
                  have s68 := same_trans p7.1 s8
                  refine ixv rfl (.inr (grow_sqT (grow_same (same_trans s26 s68)) T4)) rfl (cat_go (SqT.of upd_same) (grow_sqT (grow_same (same_trans s26 s68)) T6) (by simp only [List.length_map]; omega) fun H9 tR s9 hR9 => ?_)
                  rw [← List.map_append] at hR9
                  have s29 := same_trans (same_trans s26 s68) s9
                  have hL9 := hL.same s29
                  obtain ⟨lv9, hlv9, _⟩ := id hL9
                  refine ⟨_, rfl, .inl ⟨rfl, _, SqL.of hlv9⟩, ?_⟩
                  refine lot_te (i := 2) rfl (.inr (grow_sqT (grow_same (same_trans s68 s9)) hL6)) (by rw [List.length_append]; omega) fun H10 u3 s10 n10 e10 => ?_
                  refine lot_te (i := 3) rfl (.inr (grow_sqT (grow_same s10) hR9)) (by rw [List.length_append]; omega) fun H11 u4 s11 n11 e11 => ?_
                  refine ⟨(by show 2 ≤ sizeLine; decide), fun u5 hu5 => nil_go ?_⟩
                  have s12 := same_new (o := .tup [.ref u3, .ref u4]) hu5
                  have s912 := same_trans s10 (same_trans s11 s12)
                  refine app_data (d := pmD (stepP (gp fs n1) (gp fs n2) i3)) (hL9.same s912) (pm_make upd_same (s12 _ _ (s11 _ _ e10)) (s12 _ _ e11)) (by rw [List.length_map]; omega) (pms_firm _) (pm_firm _) fun o ho go => ?_
                  refine ⟨⟨_, _, _, _, _, _, _, rfl⟩, same_upd (same_trans s1 (same_trans s29 s912)) hl, fs ++ [stepP (gp fs n1) (gp fs n2) i3], by rw [List.map_append]; exact ho, fun p hp => ?_, by rw [List.length_append, lf]; rfl, hW2⟩
                  rcases List.mem_append.mp hp with hp | hp
                  · exact cf p hp
                  · simp only [List.mem_singleton] at hp
                    rw [hp]
                    exact can3_step (cf _ (gp_mem l1)) (cf _ (gp_mem l2))
                | _ => cases b3'
              | _ => cases b2
            | _ => cases b1
      · obtain ⟨⟨x2, x3, x5, x6, x7, x8, x9, rfl⟩, s1, fs, hL, cf, lf, hW⟩ := p
        rw [wl, List.drop_length] at hW
        exact ⟨_, rfl, ks fs hW.symm _ l s1 hl hL⟩
end
end K07

set_option Elab.async false
set_option linter.all false
set_option pp.maxSteps 800
set_option pp.deepTerms false
set_option maxRecDepth 100000
set_option maxHeartbeats 8000000
namespace K07
open PySem PySem.Spec PyProof.Rows L2 Say
def spCome (K : PySem.W.Frag) : Sp := fun vs H Q _ => ∃ (v u : V) (ps : List Pm) (d : PyData), vs = [v, u] ∧ Dp K H v (.list (ps.map shD)) ∧ Dp K H u d ∧ (∀ ds, d = .tuple ds → ds.length ≤ 60) ∧ (∀ p ∈ ps, can3 (norm p) ∧ p.1.length < 64 ∧ p.2.length < 64) ∧ ps.length ≤ 200 ∧
  ∀ H', Same H H' → Q (.bl (comeD (ps.map norm) d)) H'
def spOfUse (K : PySem.W.Frag) : Sp := fun vs H Q _ => ∃ (v : V) (n : Nat) (ts : List Stp), vs = [.int n, v] ∧ Dp K H v (.tuple (ts.map stpD)) ∧ ts ≠ [] ∧ ts.length ≤ 60 ∧ n ≤ 1000 ∧
  ∀ H', Same H H' → Q (.bl (useGo n ts ts.length [n + ts.length - 1])) H'
section
variable {P : Program} {w : World} {K : PySem.W.Frag} {mg : Str → Option Value} {base : Heap}
theorem scCome : FnScope ["_law_sheets", "_law_value", "_law_found"] ["_law_sheets", "_law_value"] (defScope (top 34)) := ⟨rfl, rfl, rfl, by decide +kernel, rfl, by decide +kernel, by decide +kernel⟩
theorem ok_come (T : Tx K mg) : Fd P w K mg base CX0 3 "_law_come" ["_law_sheets", "_law_value"] (spCome K) := by
  obtain ⟨fd, F⟩ := T.F__law_come
  refine ⟨fd, ?_, F.bindsN fun _ _ _ _ _ _ us hl => match us, hl with | [_, _], _ => rfl, F.kp⟩
  refine F.ok scCome (fun vs H Q E h => ?_) (fun cdv A ou s H vs Q E hr h => ?_)
  · obtain ⟨v, u, ps, d, rfl, _⟩ := h
    rfl
  · obtain ⟨v, u, ps, d, rfl, hd, hu, d60, hc, p200, k⟩ := h
    have hun := room65 hr
    refine ⟨_, PSs.nox (pss_cons (ps_set (i := 2) scCome.nd rfl (Or.inl rfl) (pe_fd (ok_walked T) hr rfl T.g__law_walked pass0 (pa_cons (pv 0) (pa_cons (pv 1) pa_nil))))
      (pss_one (ps_ret (pe_and (pe_cmpR op_notN (pv 2) pe_non (nomark _)) (pe_one (pe_cmpR (op_inD hun) (pe_tup (pa_cons (pe_tup pa_nil) (pa_cons (pe_tup pa_nil) pa_nil))) (pv 2) rfl)))))), ?_⟩
    refine ⟨_, rfl, _, rfl, v, u, ps, d, rfl, hd, hu, d60, hc, p200, fun e H' s1 => ?_, fun fs e H' t s1 nt hL => ?_⟩
    · have ec : comeD (ps.map norm) d = false := by unfold comeD; rw [e]
      rw [ec] at k
      exact ⟨_, rfl, rfl, _, rfl, iteF (k H' s1)⟩
    · have ec : comeD (ps.map norm) d = decide (E0 ∈ fs) := by unfold comeD; rw [e]
      rw [ec] at k
      refine ⟨_, rfl, rfl, _, rfl, iteT ⟨(by show 0 ≤ sizeLine; decide), fun t1 h1 => ⟨(by show 0 ≤ sizeLine; decide), fun t2 h2 => ⟨(by show 2 ≤ sizeLine; decide), fun t3 h3 => ?_⟩⟩⟩⟩
      have s2 := same_new (o := .tup []) h1
      have s3 := same_new (o := .tup []) h2
      have s4 := same_new (o := .tup [.ref t1, .ref t2]) h3
      obtain ⟨lv, hlv, dlv⟩ := hL.same (same_trans s2 (same_trans s3 s4))
      refine ⟨_, rfl, pmD E0, fs.map pmD, pm_make (p := E0) upd_same (s4 _ _ (s3 _ _ upd_same)) (s4 _ _ upd_same), .lst (SqL.of hlv) dlv, pm_shaped _, pms_shaped _, ?_⟩
      rw [any_pm]
      exact k _ (same_trans s1 (same_trans s2 (same_trans s3 s4)))
def NOfUse : List Str := ["_law_many", "_law_value", "_law_needed", "_law_at"]
theorem scOfUse : FnScope NOfUse ["_law_many", "_law_value"] (defScope (top 35)) := ⟨rfl, rfl, rfl, by decide +kernel, rfl, by decide +kernel, by decide +kernel⟩
theorem ok_ofuse (T : Tx K mg) : Fd P w K mg base CX0 1 "_law_of_use" ["_law_many", "_law_value"] (spOfUse K) := by
  obtain ⟨fd, F⟩ := T.F__law_of_use
  refine ⟨fd, ?_, F.bindsN fun _ _ _ _ _ _ us hl => match us, hl with | [_, _], _ => rfl, F.kp⟩
  refine F.ok scOfUse (fun vs H Q E h => ?_) (fun cdv A ou s H vs Q E hr h => ?_)
  · obtain ⟨v, n, ts, rfl, _⟩ := h
    rfl
  · obtain ⟨v, n, ts, rfl, hd, hne, t60, n1000, k⟩ := h
    refine ⟨_, PSs.nox (pss_cons (ps_set (i := 2) scOfUse.nd rfl (Or.inl rfl) (pe_lst (pa_cons (pe_op op_sub (pe_op op_add (pv 0) (pe_callB call_len_seq (by rfl) T.b_len PySem.boot_len (pa_cons (pv 1) pa_nil))) pe_int) pa_nil)))
      (pss_cons (ps_for PassesOwn.never rfl (pi_range3 (by rfl) T.b_range (pa_cons (pe_op op_sub (pe_callB call_len_seq (by rfl) T.b_len PySem.boot_len (pa_cons (pv 1) pa_nil)) pe_int) (pa_cons (pe_op op_sub pe_int pe_int) (pa_cons (pe_op op_sub pe_int pe_int) pa_nil)))) (pg_name (i := 3) scOfUse.nd rfl (Or.inl rfl))
        (pss_cons (ps_if (pt_cmpR op_notIn_seq (pe_op op_add (pv 0) (pv 3)) (pv 2) rfl) (pss_one (ps_ret pe_bl)) pss_nil)
          (pss_one (ps_expr (pe_bm PySem.F.plainAttrs_list PySem.F.slot_list_extend PySem.F.type_list_extend mt_extend (pv 2) (pa_cons (pe_callTy call_list_of (by rfl) T.b_list (by decide +kernel) (pa_cons (pe_slice sl_tupA (pe_ix ix_sq (pv 1) (pv 3) (fun _ _ => rfl)) po_none (po_some pe_int)) pa_nil)) pa_nil))))))
      (pss_one (ps_ret pe_bl)))), ?_⟩
    cases hd with
    | @tup a tv ds hs ha =>
      have tl : tv.length = ts.length := by
        have := dpAll_len ha
        rwa [List.length_map] at this
      have l1 : 1 ≤ ts.length := by
        cases ts with
        | nil => exact absurd rfl hne
        | cons a b => simp
      have big : 100000 ≤ sizeLine := by decide
      have p62 : (1000000 : Int) < 2 ^ 62 := by decide
      refine ⟨_, rfl, _, rfl, a, tv, rfl, .inr hs, _, _, rfl, rfl, _, _, rfl, rfl, (by show 1 ≤ sizeLine; decide), fun l hl => ?_⟩
      have s0 := same_new (o := .lst [.int ((n : Int) + (tv.length : Int) - 1)]) hl
      refine ⟨_, rfl, a, tv, rfl, .inr (grow_sqT (grow_same s0) hs), _, _, rfl, rfl, _, _, rfl, rfl, _, _, rfl, rfl, (tv.length : Int) - 1, 0 - 1, -1, ((tv.length : Int) - 1 - (0 - 1)).toNat, rfl, RgC.neg (by omega) (by omega) (by decide) (by decide), ?_⟩
      have eL : ((tv.length : Int) - 1 - (0 - 1)).toNat = ts.length := by omega
      rw [eL]
      have eI : (n : Int) + (tv.length : Int) - 1 = ((n + ts.length - 1 : Nat) : Int) := by omega
      refine for_rangeC (fun i σ H' => (∃ x3, σ = [some (.int n), some (.ref a), some (.ref l), x3]) ∧ Same H H' ∧ ∃ nd : List Nat, LD K H' l (nd.map natD) ∧ nd.length = 1 + 2 * i ∧ useGo n ts (ts.length - i) nd = useGo n ts ts.length [n + ts.length - 1])
        ⟨⟨_, rfl⟩, s0, [n + ts.length - 1], ⟨_, upd_same, .cons (by show Dp K _ (V.int ((n : Int) + (tv.length : Int) - 1)) _; rw [eI]; exact .int _) .nil⟩, rfl, rfl⟩ (fun i σ H1 hi p => ?_) (fun σ H1 p => ?_)
      · obtain ⟨⟨x3, rfl⟩, s1, nd, hL, nl, hU⟩ := p
        have eat : ((tv.length : Int) - 1 + (i : Nat) * (-1)) = ((ts.length - i - 1 : Nat) : Int) := by omega
        rw [eat]
        have eS : ts.length - i = (ts.length - i - 1) + 1 := by omega
        rw [eS] at hU
        have eS2 : ts.length - (i + 1) = ts.length - i - 1 := by omega
        have lj : ts.length - i - 1 < ts.length := by omega
        generalize ts.length - i - 1 = j at hU eS2 lj ⊢
        have hU' : (decide (n + j ∈ nd) && useGo n ts j (nd ++ [(ts.getD j (0, 0, 0)).1, (ts.getD j (0, 0, 0)).2.1])) = useGo n ts ts.length [n + ts.length - 1] := hU
        have hq := nats_ld hL
        have ej : ((n : Int) + (j : Int)) = ((n + j : Nat) : Int) := by omega
        refine ⟨_, rfl, _, rfl, _, _, rfl, rfl, _, rfl, ?_⟩
        have hqi : Sq K H1 l ((nd.map fun i : Nat => (i : Int)).map V.int) := by
          rw [List.map_map]
          exact .inl (SqL.of hq)
        have em : decide ((n + j : Nat) ∈ nd) = decide (((n + j : Nat) : Int) ∈ nd.map fun i : Nat => (i : Int)) := by
          by_cases h : (n + j) ∈ nd
          · have : ((n + j : Nat) : Int) ∈ nd.map fun i : Nat => (i : Int) := List.mem_map.mpr ⟨_, h, rfl⟩
            rw [decide_eq_true h, decide_eq_true this]
          · have : ((n + j : Nat) : Int) ∉ nd.map fun i : Nat => (i : Int) := fun z => by
              obtain ⟨q, h1, h2⟩ := List.mem_map.mp z
              have : q = n + j := by omega
              exact h (this ▸ h1)
            rw [decide_eq_false h, decide_eq_false this]
        refine notIn_ints (x := (n : Int) + (j : Int)) hqi ⟨_, rfl, ?_⟩
        rw [ej, ← em]
        refine ite2 (fun c => ?_) (fun c => ?_)
        · have : decide (n + j ∈ nd) = false := by simpa using c
          rw [this] at hU'
          have e : useGo n ts ts.length [n + ts.length - 1] = false := hU'.symm
          rw [e] at k
          exact k _ s1
        · have : decide (n + j ∈ nd) = true := by simpa using c
          rw [this] at hU'
          have hU2 : useGo n ts j (nd ++ [(ts.getD j (0, 0, 0)).1, (ts.getD j (0, 0, 0)).2.1]) = useGo n ts ts.length [n + ts.length - 1] := hU'
          obtain ⟨d, hd⟩ : ∃ d, (ts.map stpD)[j]? = some (stpD (ts.getD j (0, 0, 0))) ∧ d = 0 := ⟨0, by rw [List.getElem?_map, List.getElem?_eq_getElem lj, List.getD_eq_getElem?_getD, List.getElem?_eq_getElem lj]; rfl, rfl⟩
          obtain ⟨u, hu1, hu2⟩ := dpAll_at ha hd.1
          obtain ⟨ta, rfl, q4⟩ := stp_open (dp_mono s1 _ _ hu2)
          refine ⟨_, rfl, .inl ⟨rfl, _, SqL.of hq⟩, ?_⟩
          refine ⟨_, rfl, _, rfl, ix_at (.inr (grow_sqT (grow_same s1) hs)) (atI_nat hu1) ⟨_, rfl, ta, _, rfl, q4, fun z => ?_, fun _ p hp => ?_⟩⟩
          · exact absurd z.2 (by show ¬ (HT.sIx 3 3 (some 2) = 3); decide)
          have s2 := same_new (o := .tup (cutV [.int (ts.getD j (0, 0, 0)).1, .int (ts.getD j (0, 0, 0)).2.1, .int (ts.getD j (0, 0, 0)).2.2] none (some 2))) hp
          refine ⟨p, _, rfl, .inr (SqT.of upd_same), fun q hq2 => nil_go ?_⟩
          have s3 := same_new (o := .lst (cutV [.int (ts.getD j (0, 0, 0)).1, .int (ts.getD j (0, 0, 0)).2.1, .int (ts.getD j (0, 0, 0)).2.2] none (some 2))) hq2
          have s23 := same_trans s2 s3
          have nlq : l ≠ q := ne_of_none (s2 _ _ hq) hq2
          refine ext_data (es := [natD (ts.getD j (0, 0, 0)).1, natD (ts.getD j (0, 0, 0)).2.1]) (hL.same s23) ⟨_, upd_same, .cons (.int _) (.cons (.int _) .nil)⟩ (by simp only [List.length_map, List.length_cons, List.length_nil]; omega) (nats_firm _) rfl fun o ho go => ?_
          refine ⟨⟨_, rfl⟩, same_upd (same_trans s1 s23) hl, nd ++ [(ts.getD j (0, 0, 0)).1, (ts.getD j (0, 0, 0)).2.1], by rw [List.map_append]; exact ho, ?_, by rw [eS2]; exact hU2⟩
          rw [List.length_append, nl]
          simp only [List.length_cons, List.length_nil]
          omega
      · obtain ⟨⟨x3, rfl⟩, s1, nd, hL, nl, hU⟩ := p
        rw [Nat.sub_self] at hU
        have e : useGo n ts ts.length [n + ts.length - 1] = true := hU.symm
        rw [e] at k
        exact k _ s1
end
end K07

set_option Elab.async false
set_option linter.all false
set_option pp.maxSteps 800
set_option pp.deepTerms false
set_option maxRecDepth 100000
set_option maxHeartbeats 8000000
namespace K07
open PySem PySem.Spec PyProof.Rows L2 Say LamX
/-! ### what stays when only tables grow -/
theorem rd_ext {H H' : Hp} {a : Addr} {o : HO} (e : ExtN H H') (n : ∀ ps, o ≠ .tbl ps) (h : Rd H a o) : Rd H' a o := by
  rcases h with h | ⟨ob, h⟩
  · exact .inl (e _ _ h n)
  · exact .inr ⟨ob, e _ _ h fun ps z => by cases z⟩
theorem sqL_ext {K : PySem.W.Frag} {H H' : Hp} {a : Addr} {xs : List V} (e : ExtN H H') (h : SqL K H a xs) : SqL K H' a xs := h.elim (fun z => .inl (rd_ext e (fun ps z => by cases z) z)) .inr
theorem sqT_ext {K : PySem.W.Frag} {H H' : Hp} {a : Addr} {xs : List V} (e : ExtN H H') (h : SqT K H a xs) : SqT K H' a xs := h.elim (fun z => .inl (rd_ext e (fun ps z => by cases z) z)) .inr
mutual
theorem dp_ext {K : PySem.W.Frag} {H H' : Hp} (s : ExtN H H') : ∀ (d : PyData) (v : V), Dp K H v d → Dp K H' v d
  | .none, _, h => by cases h; exact .non
  | .bool b, _, h => by cases h; exact .bl b
  | .int i, _, h => by cases h; exact .int i
  | .str x, _, h => by cases h; exact .str x
  | .list ds, _, h => by
    cases h with
    | lst hs ha => exact .lst (sqL_ext s hs) (dpAll_ext s ds _ ha)
  | .tuple ds, _, h => by
    cases h with
    | tup hs ha => exact .tup (sqT_ext s hs) (dpAll_ext s ds _ ha)
  | .dict _, _, h => by cases h
theorem dpAll_ext {K : PySem.W.Frag} {H H' : Hp} (s : ExtN H H') : ∀ (ds : List PyData) (vs : List V), DpAll K H vs ds → DpAll K H' vs ds
  | [], _, h => by cases h; exact .nil
  | d :: ds, _, h => by
    cases h with
    | cons h1 h2 => exact .cons (dp_ext s d _ h1) (dpAll_ext s ds _ h2)
end
theorem ext_same {H H' : Hp} (s : Same H H') : ExtN H H' := ExtN.of s
/-! ### lambdas called, what they let out told of the very state -/
section
variable {X : Cx} {pins : List (Addr × Obj)} {σ : L2.St} {H : Hp} {s : Shared}
def tCallLamS (X : Cx) (W : WX) (i : Nat) (b1 b2 : Lm) (t1 t2 : XK → TE) : TE := fun σ H Q => ∃ f, σ[i]? = some (some (.ref f)) ∧ ((IsLam X H f b1 ∧ t1 (WE W σ) σ H Q) ∨ (IsLam X H f b2 ∧ t2 (WE W σ) σ H Q))
theorem lam_oneS {k : Nat} {E : XK} {b : Lm} {tb : TE} {f : Addr} {Q : VK} (hx : PassesAt (L2.CX X.prog X.w) X σ E) (hr : Room (k + 1) X.A) (B : LmOk X k E b tb) (I : Inv X pins σ H s) (hl : IsLam X H f b) (q : tb σ H Q) :
    wpAny (model X.prog X.w) X.A (call (.ref f) []) (EP X pins σ Q) X.xe s := by
  obtain ⟨pm, ctv, c, h1, h2⟩ := hl
  have of1 : s.heap.get? f = some (lmObj X b pm ctv c) := (I.hok f _ h1).1
  obtain ⟨⟨oc, vs, t, hoc, hdc, hvc⟩, _, _⟩ := I.hok c _ h2
  have rc : codeAny (model X.prog X.w) X.A (.call (.ref f) ⟨[], []⟩) (CR (L2.CX X.prog X.w) X.stack X.prog X.w H s Q E) s := by
    refine PySem.W.kla_callFunE hr.depth of1 rfl B.own.co B.own.gen rfl ⟨c, oc, vs, t, rfl, hoc, hdc, hvc⟩ ?_
    rw [B.bind]
    refine wpAny_pure (wpAny_newFunctionEnv (fun y hy => (B.own.own y hy).2) (fun y hy => absurd hy (by simp)) (fun h₁ hns hsb => ⟨I.nolimit.fresh _ hsb, ?_⟩) B.own.kind)
    show codeAny _ _ (.expr b.bd (lamEnv X b.sc s.heap.objs.size f c)) _ _
    have kp : ∀ a o, s.heap.get? a = some o → h₁.get? a = some o := fun a o e => hsb.extBut a o (Nat.ne_of_lt (Heap.lt_size e)) (Heap.get?_push_of_some _ e)
    have J := lam_start2 (E := E) (f := f) (c' := c) (tk := s.toks + ([] : List (Str × Value)).length) I B.own I.env0 hr.hd Un.refl hns kp
    refine PySem.W.kla_codeExpr (wpAny_mono ((B.body _ _ s H f c (hr.deeper _)).run [] _ _ H Q J q) (fun v s' hq => ?_) fun e s' hq => hq)
    obtain ⟨w', H', J', rv, q⟩ := hq
    exact ⟨w', H', J'.os, J'.bare, J'.base, J'.hok, rv, q⟩
  refine wpAny_call (codeAny_mono rc fun r s' hq => ?_)
  cases r with
  | error e => exact hx pins H s e s' I hq
  | ok fl =>
    cases fl with
    | ret u => exact I.after hq
    | next => exact False.elim hq
    | brk => exact False.elim hq
    | cont => exact False.elim hq
theorem pe_callLamS {Y : Cx} {k i : Nat} {a : Str} {W : WX} {b1 b2 : Lm} {t1 t2 : XK → TE} {p1 p2 : Pos} (hY : ∀ H f b, IsLam Y H f b → IsLam X H f b) (tk : Takes X W) (hr : Room (k + 1) X.A) (B1 : ∀ E, LmOk X k E b1 (t1 E)) (B2 : ∀ E, LmOk X k E b2 (t2 E))
    (hN : X.N[i]? = some a) (hv : Vis X.env.scope a) (hd : (a == ("__debug__" : Str)) = false := by decide) (hcd : (a == ("__classdict__" : Str)) = false := by decide) : PE X (.Call (.Name a p1) [] [] p2) (tCallLamS Y W i b1 b2 t1 t2) := by
  refine ⟨fun pins s σ H Q I h => ?_⟩
  obtain ⟨f, hs, h⟩ := h
  refine wpAny_Call_Name_kw (thn ((pe_var (pos := p1) (i := i) hN hv hd hcd).run pins s σ H (fun v H1 => v = .ref f ∧ H1 = H) I ⟨.ref f, hs, rfl, rfl⟩) fun u s1 ⟨v, H1, I1, r1, q1⟩ => ?_)
  obtain ⟨ev, eH⟩ := q1
  subst ev
  rw [eH] at I1
  obtain rfl : u = Value.ref f := r1
  have of : ∀ {b : Lm}, IsLam X H f b → ∃ (oc : Value) (od : Option Addr) (fd : FuncData) (sl : Array (Option Value)), s1.heap.get? f = some ⟨oc, od, .func fd, sl⟩ := fun {b} hl => by
    obtain ⟨pm, ctv, c, h1, _⟩ := hl
    exact ⟨_, _, _, _, (I1.hok f _ h1).1⟩
  rcases h with ⟨hl, q⟩ | ⟨hl, q⟩
  · exact PySem.W.callWith_F0 (of (hY _ _ _ hl)) (lam_oneS (passAt tk σ) hr (B1 _) I1 (hY _ _ _ hl) q)
  · exact PySem.W.callWith_F0 (of (hY _ _ _ hl)) (lam_oneS (passAt tk σ) hr (B2 _) I1 (hY _ _ _ hl) q)
end
theorem cl_yes {K : PySem.W.Frag} {Wout : WX} {D : Ends} {q : Say.Cl} {r : List Say.Cl} {cls : Value} {d : Option Addr} {σ : L2.St} {H : Hp} (h : PySem.W.exmOne K cls q.c = some true)
    (w : ∀ a, H a = none → q.ts a cls d (q.ends D) (q.on a σ) H) : wCl K Wout D (q :: r) cls d σ H := ⟨true, h, fun _ => w, (fun z => nomatch z)⟩
/-- a def's promise, its code's address known -/
theorem FunD_okc {P : Program} {w : World} {K : PySem.W.Frag} {mg : Str → Option Value} {base : Heap} {x qual : Str} {params : Arguments} {body : List Stmt} {scope : Scope} {dvs : List V} {kws : List (Str × V)} {p : Str × Option Str} {fd : FuncData} {CX : CXT} {N ps : List Str} {k : Nat} {sp : Sp}
    (F : FunD K x qual params body scope dvs kws (He.fAd K p) fd) (S : FnScope N ps scope) (len : ∀ vs H Q E, sp vs H Q E → vs.length = ps.length)
    (hbody : ∀ (A : Around) (outer : List Env) (s : Shared) (H : Hp) (vs : List V) (Q : VK) (E : XK), Room k (A.deeper (envOfC qual scope s.heap.objs.size (He.fAd K p) (.ref (He.codeOf K p)))) → sp vs H Q E →
      ∃ t, PSs (cxOf CX P w K mg base N qual scope (He.fAd K p) (.ref (He.codeOf K p)) A outer s H E) body t ∧ t { nx := fun _ H' => Q .non H', rt := Q } (start N vs) H) : FnOk P w K mg base CX (k + 1) (He.fAd K p) fd ps sp := by
  obtain ⟨oc, od, dV, kV, doc, pm, an, cdv, ct, osl, rfl, lk, hcd, _, _⟩ := F.ex
  obtain ⟨c, rfl⟩ := He.codeIn_ref hcd
  have e := He.codeOf_eq lk (c := c) rfl
  rw [e] at hbody
  exact fn_of lk hcd S len fun A outer s H vs Q E hr hsp => hbody A outer s H vs Q E hr hsp
/-! ### _law_refused -/
def lmOf : Expr → Lm
  | .Lambda ps bd sc _ => ⟨ps, bd, sc⟩
  | e => ⟨defArgs (top 36), e, defScope (top 36)⟩
def lmA : Lm := lmOf (match defBody (top 36) with
  | _ :: .Assign _ (.List (e :: _) _) _ :: _ => e
  | _ => .Name "" ⟨0, 0, 0, 0⟩)
def lmB : Lm := lmOf (match defBody (top 36) with
  | _ :: _ :: .Expr (.Call _ (e :: _) _ _) _ :: _ => e
  | _ => .Name "" ⟨0, 0, 0, 0⟩)
def pRef : He.Defn := ("_law_refused", none)
def q36 : Str := (envOfC ("_law_refused" : Str) (defScope (top 36)) 0 0 .none).qual ++ "<lambda>"
def spRef (K : PySem.W.Frag) (P : Addr) : Sp := fun vs H Q _ => ∃ (v : V) (d : PyData) (k : Int), vs = [v] ∧ Dp K H v d ∧ fewAll d ∧ needD 3 d = .inl k ∧ Tb P q36 H ∧
  ∀ H' l, ExtN H H' → Tb P q36 H' → H' l = some (.lst [.int k, .int k]) → Q (.ref l) H'
def NRef : List Str := ["_law_value", "_law_found", "_law_works", "_law_work", "e"]
theorem scRef : FnScope NRef ["_law_value"] (defScope (top 36)) := ⟨rfl, rfl, rfl, by decide +kernel, rfl, by decide +kernel, by decide +kernel⟩
theorem lk_at {v : V} : List.lookup ("at" : Str) [(("at" : Str), v)] = some v := by simp [List.lookup]
theorem lsA : LamS (defScope (top 36)) lmA.sc := lamS_by (by decide +kernel)
theorem lsB : LamS (defScope (top 36)) lmB.sc := lamS_by (by decide +kernel)
theorem tab_upd {H : Hp} {P l : Addr} {q : Str} {xs ys : List V} (h : TabS H P q) (hl : H l = some (.lst xs)) : TabS (upd H l (.lst ys)) P q := by
  obtain ⟨ps, hP, ht, ha⟩ := h
  refine ⟨ps, ?_, ht, fun p cv hc => ?_⟩
  · rw [upd_ne (fun z => by rw [z, hl] at hP; cases hP)]
    exact hP
  · obtain ⟨c, e, ec⟩ := ha p cv hc
    refine ⟨c, e, ?_⟩
    rw [upd_ne (fun z => by rw [z, hl] at ec; unfold CodeO at ec; cases ec)]
    exact ec
theorem isLam_upd {X : Cx} {H : Hp} {f l : Addr} {b : Lm} {xs ys : List V} (h : IsLam X H f b) (hl : H l = some (.lst xs)) : IsLam X (upd H l (.lst ys)) f b := by
  obtain ⟨pm, ctv, c, h1, h2⟩ := h
  refine ⟨pm, ctv, c, ?_, ?_⟩
  · rw [upd_ne (fun z => by rw [z, hl] at h1; unfold LamO at h1; cases h1)]
    exact h1
  · rw [upd_ne (fun z => by rw [z, hl] at h2; unfold CodeO at h2; cases h2)]
    exact h2
section
variable {P : Program} {w : World} {K : PySem.W.Frag} {mg : Str → Option Value} {base : Heap}
theorem ok_ref (T : Tx K mg) (TB : TabB base mg (He.cT K pRef).1 (He.cT K pRef).2) : Fd P w K mg base CX0 7 "_law_refused" ["_law_value"] (spRef K (He.cT K pRef).2) := by
  obtain ⟨fd, F⟩ := T.F__law_refused
  refine ⟨fd, ?_, F.bindsN fun _ _ _ _ _ _ us hl => match us, hl with | [_], _ => rfl, F.kp⟩
  refine FunD_okc (p := pRef) F scRef (fun vs H Q E h => ?_) (fun A ou s H vs Q E hr h => ?_)
  · obtain ⟨v, d, k, rfl, _⟩ := h
    rfl
  · obtain ⟨v, d, k, rfl, hd, few, en, ht, kq⟩ := h
    refine ⟨_, PSs.nox (pss_cons (ps_set (i := 1) scRef.nd rfl (Or.inl rfl) pe_non)
      (pss_cons (ps_set (i := 2) scRef.nd rfl (Or.inl rfl) (pe_lst (pa_cons (pe_lam (b := lmA) TB rfl lsA) pa_nil)))
      (pss_cons (ps_expr (pe_bm PySem.F.plainAttrs_list PySem.F.slot_list_append PySem.F.type_list_append mt_append (pv 2) (pa_cons (pe_lam (b := lmB) TB rfl lsB) pa_nil)))
      (pss_cons (ps_for PassesOwn.never rfl (pi_sq (pv 2)) (pg_name (i := 3) scRef.nd rfl (Or.inl rfl))
        (pss_one (ps_try_cl rfl rfl scRef.nd LamX.takes0
          (ClOk.as (i := 4) ⟨rfl, by decide, .inl T.c_InvalidPremises⟩ rfl rfl (fun a oe cls d pn hz hf => pss_one (ps_set (i := 1) scRef.nd rfl (Or.inl rfl)
            (pe_ifExp (pt_cmpR op_isN (pv 1) pe_non (nomark _)) (pe_lst (pa_cons (pe_xf T.E_InvalidPremises.xf T.n_InvalidPremises_at hz hf (pv 4)) pa_nil))
              (pe_op op_cat (pv 1) (pe_lst (pa_cons (pe_xf T.E_InvalidPremises.xf T.n_InvalidPremises_at hz hf (pv 4)) pa_nil)))))) .nil)
          (fun W pn xe tk _ => pss_cons (ps_expr (pe_callLamS (Y := (cxOf CX0 P w K mg base NRef ("_law_refused" : Str) (defScope (top 36)) (He.fAd K pRef) (.ref (He.codeOf K pRef)) A ou s H E).nox) (k := 5) (b1 := lmA) (b2 := lmB) (i := 3) (fun _ _ _ z => z) tk hr
              (fun E => ⟨lsA, fun _ _ _ _ _ => rfl, fun A ou s H f c hr => pe_fd (E := E) (ok_steps T) hr rfl T.g_clash_steps (passes_call (takes_of rfl rfl rfl rfl) fun _ _ _ _ z => z) (pa_cons (pv 0) pa_nil)⟩)
              (fun E => ⟨lsB, fun _ _ _ _ _ => rfl, fun A ou s H f c hr => pe_fd (E := E) (ok_hold T) hr rfl T.g_steps_hold (passes_call (takes_of rfl rfl rfl rfl) fun _ _ _ _ z => z) (pa_cons (pv 0) (pa_cons (pe_tup pa_nil) pa_nil))⟩)
              rfl (by first | exact Or.inl rfl | exact Or.inr (Or.inl rfl)))) (pss_one (ps_ret pe_non))))))
      (pss_one (ps_ret (pv 1))))))), ?_⟩
    refine ⟨ht, fun f1 H1 n1 e1 t1 l1 => ⟨(by show 1 ≤ sizeLine; decide), fun l hl => ?_⟩⟩
    have s1 := same_new (o := .lst [.ref f1]) hl
    refine ⟨_, rfl, .inl ⟨rfl, _, SqL.of upd_same⟩, t1.ext s1, fun f2 H2 n2 e2 t2 l2 => ?_⟩
    have hl2 : H2 l = some (.lst [.ref f1]) := e2 _ _ upd_same fun ps z => by cases z
    refine ⟨l, [.ref f1], .ref f2, rfl, rfl, hl2, (by show 1 < sizeLine; decide), ?_⟩
    have la1 := isLam_upd (ys := [.ref f1, .ref f2]) ((l1.ext (ext_same s1)).ext e2) hl2
    have la2 := isLam_upd (ys := [.ref f1, .ref f2]) l2 hl2
    have t3 := tab_upd (ys := [.ref f1, .ref f2]) t2 hl2
    have e3 : ExtN H (upd H2 l (.lst [.ref f1, .ref f2])) := fun b o h n => by
      have h1 := e1 b o h n
      have nb : b ≠ l := ne_of_none h1 hl
      rw [upd_ne nb]
      exact e2 b o (s1 b o h1) n
    have d3 := dp_ext e3 _ _ hd
    have hl3 : upd H2 l (.lst [.ref f1, .ref f2]) l = some (.lst [.ref f1, .ref f2]) := upd_same
    refine ⟨_, rfl, l, rfl, for_sqS (H0 := upd H2 l (.lst [.ref f1, .ref f2])) (xs := [.ref f1, .ref f2]) (fun i σ H' => ∃ x w3, σ = [some v, some x, some (.ref l), w3, none] ∧ Same (upd H2 l (.lst [.ref f1, .ref f2])) H' ∧
      (i = 0 → x = .non) ∧ (i = 1 → ∃ a, x = .ref a ∧ H' a = some (.lst [.int k])) ∧ (i = 2 → ∃ a, x = .ref a ∧ H' a = some (.lst [.int k, .int k])))
      (.inl (SqL.of hl3)) ⟨_, _, rfl, fun _ _ z => z, fun _ => rfl, fun z => absurd z (by decide), fun z => absurd z (by decide)⟩ (fun i σ H' _ p => ?_) (fun i x σ H' hx p => ?_) (fun σ H' p => ?_)⟩
    · obtain ⟨_, _, _, p, _⟩ := p
      exact p
    · obtain ⟨y, w3, rfl, p, p0, p1, _⟩ := p
      have hI : ∀ k', needD 3 d = .inl k' → k' = k := fun k' z => by
        rw [en] at z
        exact (Sum.inl.inj z).symm
      have hN : ∀ ps, needD 3 d = .inr ps → False := fun ps z => by
        rw [en] at z
        cases z
      have i2 : i = 0 ∨ i = 1 := by
        have := (List.getElem?_eq_some_iff.mp hx).1
        simp only [List.length_cons, List.length_nil] at this
        omega
      rcases i2 with rfl | rfl
      · have e0 := p0 rfl
        subst e0
        cases hx
        refine ⟨f1, rfl, .inl ⟨la1.ext (ext_same p), ?_⟩⟩
        refine ⟨_, rfl, v, d, rfl, dp_mono p _ _ d3, few, fun k' z dd H4 s4 hdd => ?_, fun ps z => (hN ps z).elim⟩
        obtain rfl := hI k' z
        refine cl_yes T.m_InvalidPremises_InvalidPremises fun a na => ?_
        refine ⟨_, rfl, rfl, _, rfl, iteT ⟨_, rfl, rfl, rfl, dd, _, _, rfl, hdd, lk_at, (by show 1 ≤ sizeLine; decide), fun L hL => ?_⟩⟩
        exact ⟨_, _, rfl, same_trans p (same_trans s4 (same_new hL)), fun z => absurd z (by decide), fun _ => ⟨L, rfl, upd_same⟩, fun z => absurd z (by decide)⟩
      · obtain ⟨b, rfl, hb⟩ := p1 rfl
        cases hx
        refine ⟨f2, rfl, .inr ⟨la2.ext (ext_same p), ?_⟩⟩
        refine ⟨_, rfl, (by show 0 ≤ sizeLine; decide), fun t0 n0 => ?_⟩
        have s0 := same_new (o := .tup []) n0
        refine ⟨v, .ref t0, d, .tuple [], rfl, dp_mono (same_trans p s0) _ _ d3, .tup (.inl (Rd.of upd_same)) .nil, few, ?_, fun k' z dd H4 s4 hdd => ?_, fun ps z => (hN ps z).elim⟩
        · intro ds z
          cases z
          exact Nat.zero_le _
        obtain rfl := hI k' z
        refine cl_yes T.m_InvalidPremises_InvalidPremises fun a na => ?_
        refine ⟨_, rfl, rfl, _, rfl, iteF ⟨_, rfl, _, rfl, rfl, rfl, dd, _, _, rfl, hdd, lk_at, (by show 1 ≤ sizeLine; decide), fun L hL => ?_⟩⟩
        have s5 := same_new (o := .lst [.int k']) hL
        refine ⟨b, L, [.int k'], [.int k'], rfl, rfl, s5 _ _ (s4 _ _ (s0 _ _ hb)), upd_same, (by show 1 + 1 ≤ sizeLine; decide), fun M hM => ?_⟩
        exact ⟨_, _, rfl, same_trans p (same_trans s0 (same_trans s4 (same_trans s5 (same_new hM)))), fun z => absurd z (by decide), fun z => absurd z (by decide), fun _ => ⟨M, rfl, upd_same⟩⟩
    · obtain ⟨y, w3, rfl, p, _, _, p2⟩ := p
      obtain ⟨L, rfl, hL⟩ := p2 rfl
      exact ⟨_, rfl, kq _ L (e3.trans (ext_same p)) (by
        obtain ⟨ps, a1, a2, a3⟩ := t3
        exact ⟨ps, p _ _ a1, a2, fun pos cv z => by
          obtain ⟨c, z1, z2⟩ := a3 pos cv z
          exact ⟨c, z1, p _ _ z2⟩⟩) hL⟩
end
end K07

set_option Elab.async false
set_option linter.all false
set_option pp.maxSteps 800
set_option pp.deepTerms false
set_option maxRecDepth 100000
set_option maxHeartbeats 8000000
namespace K07
open PySem PySem.Spec PyProof.Rows L2 Say
def rLstO (K : PySem.W.Frag) : List V → Hp → VK → Prop := fun xs H Q => ∃ p ys, xs = [.ref p] ∧ (SqL K H p ys ∨ SqT K H p ys) ∧ ∀ l, H l = none → Q (.ref l) (upd H l (.lst ys))
/-- [.. for x in xs], what is held told freely -/
theorem lc_sqP {K : PySem.W.Frag} {a : Addr} {xs : List V} {g : TG} {tt : TT} {te : TE} {vs : List Nat} {σ : L2.St} {H : Hp} {Qd : Addr → Hp → Prop} (Pv : Addr → Nat → Hp → Prop) (hq : Sq K H a xs) (h0 : ∀ D, H D = none → Pv D 0 (upd H D (.lst [])))
    (hk : ∀ D i H', Pv D i H' → Same H H')
    (hs : ∀ D, H D = none → ∀ i x H', xs[i]? = some x → Pv D i H' → g x (wipe σ vs) H' fun σ2 H2 => wipe σ2 vs = wipe σ vs ∧ tt σ2 H2 fun b H3 =>
      if b = true then te σ2 H3 fun y H4 => ∃ acc, H4 D = some (.lst acc) ∧ acc.length < sizeLine ∧ Pv D (i + 1) (upd H4 D (.lst (acc ++ [y]))) else Pv D (i + 1) H3)
    (hd : ∀ D H', H D = none → Pv D xs.length H' → Qd D H') :
    ((∃ xs, SqL K H a xs) ∧ ∀ D, H D = none → LcR (Itl K a) g tt te vs σ H D (Qd D)) ∨ ((∃ xs, SqT K H a xs) ∧ ∀ D, H D = none → LcR (Itt K a) g tt te vs σ H D (Qd D)) := by
  rcases hq with hq | hq
  · refine .inl ⟨⟨xs, hq⟩, fun D hD => lc_it (walk_list (K := K) (a := a) (xs := xs)) (Pv D) (h0 D hD) (fun i H' hi p => (hk D i H' p).seq hq) (fun i x H' H2 hi p y => ?_) fun H' p => hd D H' hD p⟩
    obtain ⟨rfl, y⟩ := y
    exact hs D hD i x H2 y p
  · refine .inr ⟨⟨xs, hq⟩, fun D hD => lc_it (walk_tup (K := K) (a := a) (xs := xs)) (Pv D) (h0 D hD) (fun i H' hi p => grow_sqT (grow_same (hk D i H' p)) hq) (fun i x H' H2 hi p y => ?_) fun H' p => hd D H' hD p⟩
    obtain ⟨rfl, y⟩ := y
    exact hs D hD i x H2 y p
/-- everything but the box stays -/
def But (p : Addr) (H H' : Hp) : Prop := ∀ b o, H b = some o → b ≠ p → H' b = some o
theorem But.refl {p : Addr} {H : Hp} : But p H H := fun _ _ h _ => h
theorem But.trans {p : Addr} {H H1 H2 : Hp} (a : But p H H1) (b : But p H1 H2) : But p H H2 := fun x o h n => b x o (a x o h n) n
theorem But.of {p : Addr} {H H' : Hp} (s : Same H H') : But p H H' := fun x o h _ => s x o h
theorem But.eq {p : Addr} {H H' : Hp} (e : ∀ b, b ≠ p → H' b = H b) : But p H H' := fun x o h n => (e x n).trans h
theorem BoxAt.same {p : Addr} {H H' : Hp} (h : BoxAt H p) (s : Same H H') : BoxAt H' p := by
  obtain ⟨x, y, z, h⟩ := h
  exact ⟨x, y, z, s _ _ h⟩
theorem BoxAt.ne {p a : Addr} {H : Hp} (h : BoxAt H p) (n : H a = none) : a ≠ p := by
  obtain ⟨x, y, z, h⟩ := h
  exact fun e => by rw [e, h] at n; cases n
def toldD : Option (List Stp) → PyData
  | none => .none
  | some ts => .tuple (ts.map stpD)
def spSpoilt (K : PySem.W.Frag) : Sp := fun vs H Q _ => ∃ (p : Addr) (t : V) (o : Option (List Stp)) (n : Nat), vs = [.ref p, t, .int n] ∧ BoxAt H p ∧ Dp K H t (toldD o) ∧ (∀ ts, o = some ts → ts.length ≤ 26) ∧ n ≤ 1000 ∧
  ∀ H' v d, But p H H' → BoxAt H' p → Dp K H' v d → (∀ ds, d = .tuple ds → ds.length ≤ 60) → Q v H'
def NSp : List Str := ["_law_box_here", "_law_told", "_law_many", "_law_steps", "_law_kind", "_law_at", "_law_value", "_law_step"]
theorem scSp : FnScope NSp ["_law_box_here", "_law_told", "_law_many"] (defScope (top 37)) := ⟨rfl, rfl, rfl, by decide +kernel, rfl, by decide +kernel, by decide +kernel⟩
def Flat (v : V) : Prop := (∃ i, v = .int i) ∨ (∃ b, v = .bl b) ∨ v = .non
def IsI (v : V) : Prop := ∃ i, v = .int i
def StepsOf (H0 H : Hp) (p S : Addr) (F : V → Prop) (n : Nat) : Prop := ∃ As : List Addr, H S = some (.lst (As.map V.ref)) ∧ As.length = n ∧ S ≠ p ∧ ∀ a ∈ As, a ≠ S ∧ a ≠ p ∧ H0 a = none ∧ ∃ x y z, F x ∧ F y ∧ F z ∧ H a = some (.lst [x, y, z])
theorem StepsOf.but {H0 H H' : Hp} {p S : Addr} {F : V → Prop} {n : Nat} (h : StepsOf H0 H p S F n) (e : But p H H') : StepsOf H0 H' p S F n := by
  obtain ⟨As, h1, h2, h3, h4⟩ := h
  refine ⟨As, e _ _ h1 h3, h2, h3, fun a ha => ?_⟩
  obtain ⟨g1, g2, g0, x, y, z, fx, fy, fz, g3⟩ := h4 a ha
  exact ⟨g1, g2, g0, x, y, z, fx, fy, fz, e _ _ g3 g2⟩
theorem StepsOf.imp {H0 H : Hp} {p S : Addr} {F G : V → Prop} {n : Nat} (h : StepsOf H0 H p S F n) (e : ∀ v, F v → G v) : StepsOf H0 H p S G n := by
  obtain ⟨As, h1, h2, h3, h4⟩ := h
  refine ⟨As, h1, h2, h3, fun a ha => ?_⟩
  obtain ⟨g1, g2, g0, x, y, z, fx, fy, fz, g3⟩ := h4 a ha
  exact ⟨g1, g2, g0, x, y, z, e _ fx, e _ fy, e _ fz, g3⟩
theorem or_told {K : PySem.W.Frag} {σ : L2.St} {H : Hp} {t : V} {o : Option (List Stp)} {Q : VK} (e1 : σ[1]? = some (some t)) (ht : Dp K H t (toldD o)) (o26 : ∀ ts, o = some ts → ts.length ≤ 26)
    (k : ∀ H' T0 tv (ts : List Stp), Same H H' → SqT K H' T0 tv → DpAll K H' tv (ts.map stpD) → 1 ≤ ts.length → ts.length ≤ 26 → Q (.ref T0) H') :
    tOrT K (tVar 1) (tTup (tCons (tTup (tCons (tC (.int 0)) (tCons (tC (.int 0)) (tCons (tC (.int 1)) tNil)))) tNil)) σ H Q := by
  have alt : (tTup (tCons (tTup (tCons (tC (.int 0)) (tCons (tC (.int 0)) (tCons (tC (.int 1)) tNil)))) tNil)) σ H Q := by
    refine ⟨(by show 3 ≤ sizeLine; decide), fun t1 h1 => ⟨(by show 1 ≤ sizeLine; decide), fun t2 h2 => ?_⟩⟩
    have s1 := same_new (o := .tup [.int 0, .int 0, .int 1]) h1
    have s2 := same_new (o := .tup [.ref t1]) h2
    exact k _ t2 _ [(0, 0, 1)] (same_trans s1 s2) (SqT.of upd_same) (.cons (.tup (SqT.of (s2 _ _ upd_same)) (.cons (.int _) (.cons (.int _) (.cons (.int _) .nil)))) .nil) (Nat.le_refl 1) (by decide)
  cases o with
  | none =>
    cases ht
    exact ⟨_, e1, false, rfl, iteF alt⟩
  | some ts =>
    have l := o26 ts rfl
    cases ht with
    | @tup a tv _ hs ha =>
      cases ts with
      | nil =>
        cases ha
        exact ⟨_, e1, false, .inr (.inl ⟨_, hs, rfl⟩), iteF alt⟩
      | cons x xs =>
        obtain ⟨y, ys, rfl⟩ : ∃ y ys, tv = y :: ys := by
          cases ha
          exact ⟨_, _, rfl⟩
        exact ⟨_, e1, true, .inr (.inl ⟨_, hs, rfl⟩), iteT (k H a _ (x :: xs) (same_refl H) hs ha (by simp) l)⟩
theorem flat_dp {v : V} (K : PySem.W.Frag) (h : Flat v) : ∃ d, firm d = true ∧ ∀ H, Dp K H v d := by
  rcases h with ⟨i, rfl⟩ | ⟨b, rfl⟩ | rfl
  · exact ⟨.int i, rfl, fun _ => .int i⟩
  · exact ⟨.bool b, rfl, fun _ => .bl b⟩
  · exact ⟨.none, rfl, fun _ => .non⟩
theorem firm_app : ∀ (ds : List PyData) (d : PyData), firmAll ds = true → firm d = true → firmAll (ds ++ [d]) = true
  | [], d, _, h => by show (firm d && true) = true; rw [h]; rfl
  | e :: ds, d, h, hd => by
    have h2 : (firm e && firmAll ds) = true := h
    obtain ⟨h3, h4⟩ := Bool.and_eq_true_iff.mp h2
    show (firm e && firmAll (ds ++ [d])) = true
    rw [h3, firm_app ds d h4 hd]
    rfl
theorem sp_fin {K : PySem.W.Frag} {p S : Addr} {kind : Int} {H0 H5 : Hp} {m : Nat} {Q : VK} {x0 x1 x2 x5 x6 x7 : Option V} (b : But p H0 H5) (hB : BoxAt H5 p) (hS : StepsOf H0 H5 p S Flat m) (hm : m ≤ 60)
    (k : ∀ H' v d, But p H0 H' → BoxAt H' p → Dp K H' v d → (∀ ds, d = .tuple ds → ds.length ≤ 60) → Q v H') :
    tSeq (tAsg (tLc (iSq K (tVar 3)) (gName 7) tYes (tCB (rTup K) (tCons (tVar 7) tNil)) (List.map (fun x => x.snd) [(("_law_step" : Str), 7)])) (gName 6))
      (tRet (tIf (tTest (tOp rEq (tVar 4) (tC (V.int 5)))) (tVar 6) (tCB (rTup K) (tCons (tVar 6) tNil)))) { nx := fun _ H' => Q .non H', rt := Q } [x0, x1, x2, some (.ref S), some (.int kind), x5, x6, x7] H5 := by
  obtain ⟨As, g1, g2, g3, g4⟩ := hS
  have big : 100000 ≤ sizeLine := by decide
  refine ⟨_, rfl, S, rfl, lc_sqP (fun D i H' => Same H5 H' ∧ ∃ ds, LD K H' D ds ∧ ds.length = i ∧ firmAll ds = true) (.inl (SqL.of g1)) (fun D hD => ⟨same_new hD, [], LD.new, rfl, rfl⟩) (fun D i H' z => z.1) (fun D hD i x H' hx z => ?_) (fun D H' hD z => ?_)⟩
  · obtain ⟨s1, ds, hL, dl, df⟩ := z
    rw [List.getElem?_map] at hx
    obtain ⟨a, ha, rfl⟩ := Option.map_eq_some_iff.mp hx
    have il : i < As.length := (List.getElem?_eq_some_iff.mp ha).1
    obtain ⟨q1, q2, q0, x, y, z, fx, fy, fz, q3⟩ := g4 a (List.mem_of_getElem? ha)
    refine ⟨rfl, ⟨_, rfl, a, _, rfl, .inl ⟨SqL.of (s1 _ _ q3), fun l hl => ?_⟩⟩⟩
    have s2 := same_new (o := .tup [x, y, z]) hl
    obtain ⟨dx, fdx, px⟩ := flat_dp K fx
    obtain ⟨dy, fdy, py⟩ := flat_dp K fy
    obtain ⟨dz, fdz, pz⟩ := flat_dp K fz
    obtain ⟨vs, hv, dv⟩ := hL
    have fd : firm (.tuple [dx, dy, dz]) = true := by
      show (firm dx && (firm dy && (firm dz && true))) = true
      rw [fdx, fdy, fdz]
      rfl
    have dv' := dpAll_mono s2 _ _ dv
    refine ⟨vs, s2 _ _ hv, by rw [dpAll_len dv]; omega, same_upd (same_trans s1 s2) hD, ds ++ [.tuple [dx, dy, dz]], LD.push (s2 _ _ hv) dv' (.tup (SqT.of upd_same) (.cons (px _) (.cons (py _) (.cons (pz _) .nil)))) df fd, ?_, firm_app _ _ df fd⟩
    rw [List.length_append, dl]
    rfl
  · obtain ⟨s1, ds, hL, dl, df⟩ := z
    have b1 := b.trans (But.of s1)
    have hB1 := hB.same s1
    obtain ⟨vs, hv, dv⟩ := id hL
    refine ⟨_, rfl, rfl, _, rfl, ite2 (fun _ => ?_) (fun _ => ?_)⟩
    · exact ⟨_, rfl, k _ _ (.list ds) b1 hB1 (.lst (SqL.of hv) dv) fun _ z => by cases z⟩
    · refine ⟨_, rfl, D, vs, rfl, .inl ⟨SqL.of hv, fun l hl => ?_⟩⟩
      have s2 := same_new (o := .tup vs) hl
      exact k _ _ (.tuple ds) (b1.trans (But.of s2)) (hB1.same s2) (.tup (SqT.of upd_same) (dpAll_mono s2 _ _ dv)) fun ds2 z => by
        cases z
        rw [dl, List.length_map]
        omega
theorem cut_ref (As : List Addr) (lo hi : Option Int) : ∃ Bs : List Addr, cutV (As.map V.ref) lo hi = Bs.map V.ref ∧ (∀ b ∈ Bs, b ∈ As) ∧ Bs.length ≤ As.length := by
  refine ⟨(As.drop (HT.sIx (As.map V.ref).length 0 lo)).take (HT.sIx (As.map V.ref).length (As.map V.ref).length hi - HT.sIx (As.map V.ref).length 0 lo), ?_, fun b hb => List.mem_of_mem_drop (List.mem_of_mem_take hb), ?_⟩
  · unfold cutV
    rw [List.map_take, List.map_drop]
  · rw [List.length_take, List.length_drop]
    omega
/-- a list of some of the steps -/
theorem some_steps {H0 H H' : Hp} {p D M : Addr} {F : V → Prop} {As Bs : List Addr} {m : Nat} (hS : StepsOf H0 H p D F m) (hA : H D = some (.lst (As.map V.ref))) (s : Same H H') (hM : H' M = some (.lst (Bs.map V.ref))) (n : H M = none) (np : M ≠ p) (hb : ∀ b ∈ Bs, b ∈ As) : StepsOf H0 H' p M F Bs.length := by
  obtain ⟨Cs, g1, g2, g3, g4⟩ := hS
  have e : As = Cs := by
    rw [hA] at g1
    have e1 : As.map V.ref = Cs.map V.ref := HO.lst.inj (Option.some.inj g1)
    exact (List.map_inj_right (fun x y z => V.ref.inj z)).mp e1
  subst e
  refine ⟨Bs, hM, rfl, np, fun a ha => ?_⟩
  obtain ⟨q1, q2, q0, x, y, z, fx, fy, fz, q3⟩ := g4 a (hb a ha)
  exact ⟨ne_of_none q3 n, q2, q0, x, y, z, fx, fy, fz, s _ _ q3⟩
section
variable {P : Program} {w : World} {K : PySem.W.Frag} {mg : Str → Option Value} {base : Heap}
theorem ok_spoilt (T : Tx K mg) : Fd P w K mg base CX0 4 "_law_spoilt" ["_law_box_here", "_law_told", "_law_many"] (spSpoilt K) := by
  obtain ⟨fd, F⟩ := T.F__law_spoilt
  refine ⟨fd, ?_, F.bindsN fun _ _ _ _ _ _ us hl => match us, hl with | [_, _, _], _ => rfl, F.kp⟩
  refine F.ok scSp (fun vs H Q E h => ?_) (fun cdv A ou s H vs Q E hr h => ?_)
  · obtain ⟨p, t, o, n, rfl, _⟩ := h
    rfl
  · obtain ⟨p, t, o, n, rfl, hB, ht, o26, n1, k⟩ := h
    refine ⟨_, PSs.nox (pss_cons (ps_par (i := 3) (j := 4) rfl scSp.nd rfl rfl (by decide) rfl rfl
        (pa_cons (pe_lc (own := [("_law_step", 7)]) (g := gName 7) (tt := tYes) rfl scSp.nd (pi_sq (pe_orT (pv 1) (pe_one (pe_tup (pa_cons (pe_tup (pa_cons pe_int (pa_cons pe_int (pa_cons pe_int pa_nil)))) pa_nil)))))
            (blkOk_by (N := NSp) (sc := defScope (top 37)) (by decide +kernel)) (fun _ _ _ _ _ => pg_name (i := 7) scSp.nd rfl (Or.inl rfl)) (fun _ _ _ _ _ => pts_nil)
            (fun _ _ _ _ _ => pe_callTy (show CallR _ _ (rLstO K) from call_list_of) (by rfl) T.b_list (by decide +kernel) (pa_cons (pv 7) pa_nil)))
          (pa_cons (pe_fd (ok_take T) (hr.mono (by decide)) rfl T.g__law_take pass0 (pa_cons (pv 0) (pa_cons pe_int pa_nil))) pa_nil)) rfl)
      (pss_cons (ps_set (i := 5) scSp.nd rfl (Or.inl rfl) (pe_fd (ok_take T) (hr.mono (by decide)) rfl T.g__law_take pass0 (pa_cons (pv 0) (pa_cons (pe_callB (call_max2 rfl) (by rfl) T.b_max (by decide +kernel)
          (pa_cons (pe_callB call_len_seq (by rfl) T.b_len PySem.boot_len (pa_cons (pv 3) pa_nil)) (pa_cons pe_int pa_nil))) pa_nil))))
      (pss_cons (ps_if (PW.pt (pw_or (pt_cmpR op_eq (pe_callB call_len_seq (by rfl) T.b_len PySem.boot_len (pa_cons (pv 3) pa_nil)) pe_int (nomark _)) (pw_or1 (pt_cmpR op_eq (pv 4) pe_int (nomark _)))))
        (pss_one (ps_ret (pe_fd (ok_pick T) hr rfl T.g__law_pick pass0 (pa_cons (pv 0) (pa_cons (pe_lst (pa_cons pe_non (pa_cons (pe_tup pa_nil) (pa_cons (pe_lst pa_nil) (pa_cons (pe_tup (pa_cons (pe_tup (pa_cons pe_int (pa_cons pe_int (pa_cons pe_int pa_nil)))) pa_nil))
          (pa_cons pe_int (pa_cons pe_str (pa_cons (pe_tup (pa_cons (pe_tup (pa_cons pe_int (pa_cons pe_int pa_nil))) pa_nil)) (pa_cons (pe_tup (pa_cons pe_non pa_nil)) pa_nil))))))))) pa_nil))))) pss_nil)
      (pss_cons (ps_if (pt_cmpR op_lt (pv 4) pe_int (nomark _))
        (pss_one (ps_asg (pe_fd (ok_pick T) hr rfl T.g__law_pick pass0 (pa_cons (pv 0) (pa_cons (pe_lst (pa_cons (pe_op op_add (pe_ix ix_list (pe_ix ix_list (pv 3) (pv 5) (fun _ _ => rfl)) (pv 4) (fun _ _ => rfl)) pe_int) (pa_cons pe_int (pa_cons pe_int (pa_cons pe_bl (pa_cons pe_non (pa_cons (pv 2) pa_nil))))))) pa_nil)))
          (pg_sub (pe_ix ix_list (pv 3) (pv 5) (fun _ _ => rfl)) (pv 4) set_list))) pss_nil)
      (pss_cons (ps_if (pt_cmpR op_eq (pv 4) pe_int (nomark _))
        (pss_one (ps_set (i := 3) scSp.nd rfl (Or.inl rfl) (pe_op op_cat (pe_slice sl_list (pv 3) po_none (po_some (pv 5))) (pe_slice sl_list (pv 3) (po_some (pe_op op_add (pv 5) pe_int)) po_none)))) pss_nil)
      (pss_cons (ps_if (pt_cmpR op_eq (pv 4) pe_int (nomark _))
        (pss_one (ps_set (i := 3) scSp.nd rfl (Or.inl rfl) (pe_op op_cat (pv 3) (pe_slice sl_list (pv 3) (po_some (pv 5)) (po_some (pe_op op_add (pv 5) pe_int)))))) pss_nil)
      (pss_cons (ps_setLc (i := 6) (own := [("_law_step", 7)]) (tt := tYes) rfl scSp.nd rfl rfl (sw_true rfl rfl rfl (by decide +kernel)) (pi_sq (pv 3)) (blkOk_by (N := NSp) (sc := defScope (top 37)) (by decide +kernel))
        (fun _ _ _ _ _ => pg_name (i := 7) scSp.nd rfl (Or.inl rfl)) (fun _ _ _ _ _ => pts_nil)
        (fun _ _ _ _ _ => pe_callTy (show CallR _ _ (rTup K) from call_tuple_of) (by rfl) T.b_tuple (by decide +kernel) (pa_cons (pv 7) pa_nil)))
      (pss_one (ps_ret (pe_ifExp (pt_cmpR op_eq (pv 4) pe_int (nomark _)) (pv 6) (pe_callTy (show CallR _ _ (rTup K) from call_tuple_of) (by rfl) T.b_tuple (by decide +kernel) (pa_cons (pv 6) pa_nil)))))))))))), ?_⟩
    refine or_told rfl ht o26 fun H1 T0 tv ts s1 hs hds l1 l26 => ⟨T0, rfl, lc_sqP (fun D i H' => Same H1 H' ∧ StepsOf H H' p D IsI i) (.inr hs) (fun D hD => ⟨same_new hD, [], upd_same, rfl, ?_, fun a ha => absurd ha (by simp)⟩) (fun D i H' z => z.1) (fun D hD i x H' hx z => ?_) (fun D H2 hD z => ?_)⟩
    · exact (hB.same s1).ne hD
    · obtain ⟨s2, As, g1, g2, g3, g4⟩ := z
      obtain ⟨d, hd, dx⟩ := dpAll_get hds hx
      rw [List.getElem?_map] at hd
      obtain ⟨st, hst, rfl⟩ := Option.map_eq_some_iff.mp hd
      obtain ⟨e, rfl, he⟩ := stp_open dx
      have il : i < tv.length := (List.getElem?_eq_some_iff.mp hx).1
      have tl := dpAll_len hds
      rw [List.length_map] at tl
      have big : 100000 ≤ sizeLine := by decide
      refine ⟨rfl, ⟨_, rfl, e, _, rfl, .inr (grow_sqT (grow_same s2) he), fun l hl => ?_⟩⟩
      have s3 := same_new (o := .lst [.int st.1, .int st.2.1, .int st.2.2]) hl
      have nlD : D ≠ l := ne_of_none g1 hl
      have nlp : l ≠ p := (hB.same (same_trans s1 s2)).ne hl
      refine ⟨As.map V.ref, s3 _ _ g1, by rw [List.length_map]; omega, same_upd (same_trans s2 s3) hD, As ++ [l], by rw [List.map_append]; exact upd_same, by simp [g2], g3, fun a ha => ?_⟩
      rcases List.mem_append.mp ha with ha | ha
      · obtain ⟨q1, q2, q0, x, y, z, fx, fy, fz, q3⟩ := g4 a ha
        exact ⟨q1, q2, q0, x, y, z, fx, fy, fz, by rw [upd_ne q1]; exact s3 _ _ q3⟩
      · rw [List.mem_singleton.mp ha]
        exact ⟨nlD.symm, nlp, (same_trans s1 s2).free hl, _, _, _, ⟨_, rfl⟩, ⟨_, rfl⟩, ⟨_, rfl⟩, by rw [upd_ne nlD.symm]; exact upd_same⟩
    obtain ⟨s2, hS⟩ := z
    have tl := dpAll_len hds
    rw [List.length_map] at tl
    rw [tl] at hS
    refine ⟨_, rfl, p, 7, rfl, (hB.same (same_trans s1 s2)), by decide, by decide, fun H3 kind k0 k7 hB3 e3 => ⟨_, _, rfl, ?_⟩⟩
    have hS3 := hS.but (But.eq e3)
    have b3 : But p H H3 := (But.of (same_trans s1 s2)).trans (But.eq e3)
    generalize ts.length = m at *
    obtain ⟨As, g1, g2, g3, g4⟩ := id hS3
    have lA : (As.map V.ref).length = m := by rw [List.length_map]; exact g2
    refine ⟨_, rfl, _, rfl, D, _, rfl, .inl (SqL.of g1), _, _, rfl, ?_⟩
    rw [lA]
    have em : (if (1 : Int) > (m : Int) then (1 : Int) else (m : Int)) = (m : Int) := if_neg (by omega)
    rw [em]
    refine ⟨p, m, rfl, hB3, by omega, by omega, fun H4 at0 a0 a1 hB4 e4 => ?_⟩
    have hS4 := hS3.but (But.eq e4)
    have b4 := b3.trans (But.eq e4)
    have big : 100000 ≤ sizeLine := by decide
    obtain ⟨As, g1, g2, g3, g4⟩ := id hS4
    have lA : (As.map V.ref).length = m := by rw [List.length_map]; exact g2
    refine ⟨_, rfl, D, _, rfl, .inl (SqL.of g1), rfl, _, rfl, ?_⟩
    rw [lA, decide_eq_false (show ¬ V.int (m : Int) = V.int 0 from fun z => by have := V.int.inj z; omega)]
    refine iteF ⟨_, rfl, rfl, _, rfl, ite2 (fun c6 => ?_) (fun c6 => ?_)⟩
    · refine ⟨_, rfl, (by show 0 ≤ sizeLine; decide), fun t1 h1 => ⟨(by show 0 ≤ sizeLine; decide), fun l2 h2 => ⟨(by show 3 ≤ sizeLine; decide), fun t3 h3 => ⟨(by show 1 ≤ sizeLine; decide), fun t4 h4 => ⟨(by show 2 ≤ sizeLine; decide), fun t5 h5 => ⟨(by show 1 ≤ sizeLine; decide), fun t6 h6 => ⟨(by show 1 ≤ sizeLine; decide), fun t7 h7 => ⟨(by show 8 ≤ sizeLine; decide), fun t8 h8 => ?_⟩⟩⟩⟩⟩⟩⟩⟩
      have s1 := same_new (o := .tup []) h1
      have s2 := same_new (o := .lst []) h2
      have s3 := same_new (o := .tup [.int 0, .int 0, .int 1]) h3
      have s4 := same_new (o := .tup [.ref t3]) h4
      have s5 := same_new (o := .tup [.int 0, .int 1]) h5
      have s6 := same_new (o := .tup [.ref t5]) h6
      have s7 := same_new (o := .tup [.non]) h7
      have s8 := same_new (o := .lst [.non, .ref t1, .ref l2, .ref t4, .int 5, .str ("steps" : Str), .ref t6, .ref t7]) h8
      have u7 := same_trans s7 s8
      have u6 := same_trans s6 u7
      have u5 := same_trans s5 u6
      have u4 := same_trans s4 u5
      have u3 := same_trans s3 u4
      have u2 := same_trans s2 u3
      have u1 := same_trans s1 u2
      have c1 := hB4.same s1
      have c2 := c1.same s2
      have c3 := c2.same s3
      have c4 := c3.same s4
      have c5 := c4.same s5
      have c6' := c5.same s6
      have c7 := c6'.same s7
      refine ⟨p, t8, _, rfl, hB4.same u1, (c7.ne h8).symm, SqL.of upd_same, (by show 0 < 8; decide), (by show 8 ≤ 1000; decide), fun H' v hv hB' e5 => ?_⟩
      have b9 := b4.trans ((But.of u1).trans (But.eq e5))
      have f1 := (e5 _ (hB4.ne h1)).trans (u2 _ _ upd_same)
      have f2 := (e5 _ (c1.ne h2)).trans (u3 _ _ upd_same)
      have f3 := (e5 _ (c2.ne h3)).trans (u4 _ _ upd_same)
      have f4 := (e5 _ (c3.ne h4)).trans (u5 _ _ upd_same)
      have f5 := (e5 _ (c4.ne h5)).trans (u6 _ _ upd_same)
      have f6 := (e5 _ (c5.ne h6)).trans (u7 _ _ upd_same)
      have f7 := (e5 _ (c6'.ne h7)).trans (s8 _ _ upd_same)
      simp only [List.mem_cons, List.mem_nil_iff, or_false] at hv
      rcases hv with rfl | rfl | rfl | rfl | rfl | rfl | rfl | rfl
      · exact k _ _ .none b9 hB' .non fun ds z => by cases z
      · exact k _ _ (.tuple []) b9 hB' (.tup (SqT.of f1) .nil) fun ds z => by cases z; exact Nat.zero_le _
      · exact k _ _ (.list []) b9 hB' (.lst (SqL.of f2) .nil) fun ds z => by cases z
      · exact k _ _ (.tuple [.tuple [.int 0, .int 0, .int 1]]) b9 hB' (.tup (SqT.of f4) (.cons (.tup (SqT.of f3) (.cons (.int _) (.cons (.int _) (.cons (.int _) .nil)))) .nil)) fun ds z => by cases z; decide
      · exact k _ _ (.int 5) b9 hB' (.int _) fun ds z => by cases z
      · exact k _ _ (.str _) b9 hB' (.str _) fun ds z => by cases z
      · exact k _ _ (.tuple [.tuple [.int 0, .int 1]]) b9 hB' (.tup (SqT.of f6) (.cons (.tup (SqT.of f5) (.cons (.int _) (.cons (.int _) .nil))) .nil)) fun ds z => by cases z; decide
      · exact k _ _ (.tuple [.none]) b9 hB' (.tup (SqT.of f7) (.cons .non .nil)) fun ds z => by cases z; decide
    · refine ⟨_, rfl, _, _, rfl, rfl, _, rfl, ite2 (fun c3 => ?_) (fun c3 => ?_)⟩
      · have kk : kind < 3 := of_decide_eq_true c3
        obtain ⟨j, rfl⟩ : ∃ j : Nat, at0 = (j : Int) := ⟨at0.toNat, by omega⟩
        have hj : j < As.length := by omega
        obtain ⟨q1, q2, q0, x, y, z, ⟨ix, rfl⟩, ⟨iy, rfl⟩, ⟨iz, rfl⟩, q3⟩ := g4 As[j] (List.getElem_mem hj)
        have hat : atI (As.map V.ref) (j : Int) = some (.ref As[j]) := atI_nat (by rw [List.getElem?_map, List.getElem?_eq_getElem hj]; rfl)
        obtain ⟨h, rfl⟩ : ∃ h : Nat, kind = (h : Int) := ⟨kind.toNat, by omega⟩
        have h3 : h < 3 := by omega
        have hin : ∃ iv, atI [V.int ix, V.int iy, V.int iz] (h : Int) = some (.int iv) := by
          obtain rfl | rfl | rfl : h = 0 ∨ h = 1 ∨ h = 2 := by omega
          · exact ⟨ix, rfl⟩
          · exact ⟨iy, rfl⟩
          · exact ⟨iz, rfl⟩
        obtain ⟨iv, hiv⟩ := hin
        have hix : ixN 3 (h : Int) = some h := by
          obtain rfl | rfl | rfl : h = 0 ∨ h = 1 ∨ h = 2 := by omega
          · rfl
          · rfl
          · rfl
        refine ⟨_, rfl, _, rfl, _, rfl, D, _, _, _, rfl, rfl, SqL.of g1, hat, _, rfl, As[j], _, _, _, rfl, rfl, SqL.of q3, hiv, _, _, rfl, rfl, _, rfl, (by show 6 ≤ sizeLine; decide), fun L hL => ?_⟩
        have s5 := same_new (o := .lst [.int (iv + 1), .int 0, .int 1, .bl true, .non, .int (n : Int)]) hL
        refine ⟨p, L, _, rfl, hB4.same s5, (hB4.ne hL).symm, SqL.of upd_same, (by show 0 < 6; decide), (by show 6 ≤ 1000; decide), fun H6 v hv hB6 e6 => ?_⟩
        have fv : Flat v := by
          simp only [List.mem_cons, List.mem_nil_iff, or_false] at hv
          rcases hv with rfl | rfl | rfl | rfl | rfl | rfl
          · exact .inl ⟨_, rfl⟩
          · exact .inl ⟨_, rfl⟩
          · exact .inl ⟨_, rfl⟩
          · exact .inr (.inl ⟨_, rfl⟩)
          · exact .inr (.inr rfl)
          · exact .inl ⟨_, rfl⟩
        have b46 := (But.of s5).trans (But.eq e6)
        have gD := b46 _ _ g1 g3
        have gA := b46 _ _ q3 q2
        refine ⟨_, rfl, _, rfl, D, _, _, _, rfl, rfl, SqL.of gD, hat, _, rfl, As[j], _, _, h, rfl, rfl, gA, hix, ?_⟩
        have b6 := b4.trans b46
        have up : ∀ b o, H6 b = some o → b ≠ As[j] → upd H6 As[j] (.lst ([V.int ix, V.int iy, V.int iz].set h v)) b = some o := fun b o e n => by rw [upd_ne n]; exact e
        have b7 : But p H (upd H6 As[j] (.lst ([V.int ix, V.int iy, V.int iz].set h v))) := fun b o e nb => up _ _ (b6 b o e nb) (ne_of_none e q0)
        have hB7 : BoxAt (upd H6 As[j] (.lst ([V.int ix, V.int iy, V.int iz].set h v))) p := by
          obtain ⟨x, y, z, e⟩ := hB6
          exact ⟨x, y, z, up _ _ e q2.symm⟩
        have fI : ∀ i : Int, Flat (.int i) := fun i => .inl ⟨i, rfl⟩
        have hrow : ∃ x y z, Flat x ∧ Flat y ∧ Flat z ∧ [V.int ix, V.int iy, V.int iz].set h v = [x, y, z] := by
          obtain rfl | rfl | rfl : h = 0 ∨ h = 1 ∨ h = 2 := by omega
          · exact ⟨_, _, _, fv, fI _, fI _, rfl⟩
          · exact ⟨_, _, _, fI _, fv, fI _, rfl⟩
          · exact ⟨_, _, _, fI _, fI _, fv, rfl⟩
        have hS6 := (hS4.but b46).imp (G := Flat) fun v z => .inl z
        have hS7 : StepsOf H (upd H6 As[j] (.lst ([V.int ix, V.int iy, V.int iz].set h v))) p D Flat m := by
          obtain ⟨Cs, h1, h2, h3, h4⟩ := hS6
          refine ⟨Cs, up _ _ h1 q1.symm, h2, h3, fun a ha => ?_⟩
          obtain ⟨g1, g2, g0, x, y, z, fx, fy, fz, g3⟩ := h4 a ha
          by_cases ea : a = As[j]
          · obtain ⟨x', y', z', f1, f2, f3, e⟩ := hrow
            refine ⟨g1, g2, g0, x', y', z', f1, f2, f3, ?_⟩
            rw [ea, upd_same, e]
          · exact ⟨g1, g2, g0, x, y, z, fx, fy, fz, up _ _ g3 ea⟩
        refine ⟨_, rfl, rfl, _, rfl, ite2 (fun c => absurd (V.int.inj (of_decide_eq_true c)) (by omega)) (fun _ => ⟨_, rfl, rfl, _, rfl, ite2 (fun c => absurd (V.int.inj (of_decide_eq_true c)) (by omega)) (fun _ => ?_)⟩)⟩
        exact sp_fin b7 hB7 hS7 (by omega) k
      · refine ⟨_, rfl, rfl, _, rfl, ite2 (fun c3 => ?_) (fun c3 => ?_)⟩
        · have hk : kind = 3 := V.int.inj (of_decide_eq_true c3)
          subst hk
          obtain ⟨B1, e1, i1, l1⟩ := cut_ref As none (some at0)
          obtain ⟨B2, e2, i2, l2⟩ := cut_ref As (some (at0 + 1)) none
          refine ⟨_, rfl, _, rfl, _, rfl, D, _, rfl, SqL.of g1, fun q1 n1 => ?_⟩
          have s1 := same_new (o := .lst (cutV (As.map V.ref) none (some at0))) n1
          refine ⟨_, rfl, _, rfl, _, _, rfl, rfl, _, rfl, D, _, rfl, SqL.of (s1 _ _ g1), fun q2 n2 => ?_⟩
          have s2 := same_new (o := .lst (cutV (As.map V.ref) (some (at0 + 1)) none)) n2
          refine ⟨q1, q2, _, _, rfl, rfl, s2 _ _ upd_same, upd_same, ?_, fun M hM => ?_⟩
          · rw [e1, e2, List.length_map, List.length_map]
            omega
          have s3 := same_new (o := .lst (cutV (As.map V.ref) none (some at0) ++ cutV (As.map V.ref) (some (at0 + 1)) none)) hM
          have s13 := same_trans s1 (same_trans s2 s3)
          have hS5 := some_steps (Bs := B1 ++ B2) hS4 g1 s13 (M := M) (by rw [List.map_append, ← e1, ← e2]; exact upd_same) ((same_trans s1 s2).free hM) (((hB4.same s1).same s2).ne hM) (fun b hb => (List.mem_append.mp hb).elim (i1 b) (i2 b))
          refine ⟨_, rfl, rfl, _, rfl, iteF ?_⟩
          exact sp_fin (b4.trans (But.of s13)) (hB4.same s13) (hS5.imp fun v z => .inl z) (by rw [List.length_append]; omega) k
        · refine ⟨_, rfl, rfl, _, rfl, ite2 (fun c3 => ?_) (fun c3 => ?_)⟩
          · have hk : kind = 4 := V.int.inj (of_decide_eq_true c3)
            subst hk
            obtain ⟨B2, e2, i2, l2⟩ := cut_ref As (some at0) (some (at0 + 1))
            refine ⟨_, rfl, _, rfl, _, rfl, _, rfl, _, rfl, _, _, rfl, rfl, _, rfl, D, _, rfl, SqL.of g1, fun q2 n2 => ?_⟩
            have s2 := same_new (o := .lst (cutV (As.map V.ref) (some at0) (some (at0 + 1)))) n2
            refine ⟨D, q2, _, _, rfl, rfl, s2 _ _ g1, upd_same, ?_, fun M hM => ?_⟩
            · rw [e2, List.length_map, List.length_map]
              omega
            have s3 := same_new (o := .lst (As.map V.ref ++ cutV (As.map V.ref) (some at0) (some (at0 + 1)))) hM
            have s13 := same_trans s2 s3
            have hS5 := some_steps (Bs := As ++ B2) hS4 g1 s13 (M := M) (by rw [List.map_append, ← e2]; exact upd_same) (s2.free hM) ((hB4.same s2).ne hM) (fun b hb => (List.mem_append.mp hb).elim id (i2 b))
            exact sp_fin (b4.trans (But.of s13)) (hB4.same s13) (hS5.imp fun v z => .inl z) (by rw [List.length_append]; omega) k
          · exact sp_fin b4 hB4 (hS4.imp fun v z => .inl z) (by omega) k
end
end K07

set_option Elab.async false
set_option linter.all false
set_option pp.maxSteps 800
set_option pp.deepTerms false
set_option maxRecDepth 100000
set_option maxHeartbeats 8000000
namespace K07
open PySem PySem.Spec PyProof.Rows L2 Say
/-! ### repr of data, nothing else under way -/
def rRepr (K : PySem.W.Frag) : List V → Hp → VK → Prop := fun xs H Q => ∃ v d, xs = [v] ∧ Dp K H v d ∧ (v = .non ∨ (∃ b, v = .bl b) ∨ ∃ a, v = .ref a) ∧ d.showable = true ∧ d.hasDict = false ∧ d.depth ≤ 60 ∧ d.shown.length ≤ sizeLine ∧ Q (.str d.shown) H
theorem call_reprD {X : Cx} (hg : X.A.guards = some []) (hu : X.A.units + 65 < cLine) : CallR X (.builtin "repr") (rRepr X.K) := by
  intro pins s σ H xs us Q I r h
  obtain ⟨v, d, rfl, hd, hv, h1, h2, h3, h4, q⟩ := h
  obtain ⟨u, rfl, rx⟩ := vals1 r
  rcases hv with rfl | ⟨b, rfl⟩ | ⟨a, rfl⟩
  · cases hd
    cases rx
    exact PySem.P.repr_of_none ⟨.str _, H, I.tok _, ⟨_, rfl⟩, q⟩
  · cases hd
    cases rx
    exact PySem.P.repr_of_bool ⟨.str _, H, I.tok _, ⟨_, rfl⟩, q⟩
  · obtain ⟨as, hr⟩ := Dp.reads I d _ _ hd rx
    cases rx
    exact repr_of_reads' hr h1 (fun z => by rw [h2] at z; cases z) hg (by omega) (fun _ _ z => z) (fun h' u tk hk => ⟨.str _, H, I.kept hk, ⟨_, rfl⟩, q⟩) h4
/-! ### what the found steps look like -/
theorem stpOf_stpD {m : Nat} {t : Stp} (h1 : t.1 < m) (h2 : t.2.1 < m) (h3 : 0 ≤ t.2.2) : stpOf m (stpD t) = some t := by
  show (if 0 ≤ (t.1 : Int) ∧ (t.1 : Int) < m ∧ 0 ≤ (t.2.1 : Int) ∧ (t.2.1 : Int) < m ∧ 0 ≤ t.2.2 then some ((t.1 : Int).toNat, (t.2.1 : Int).toNat, t.2.2) else none) = some t
  rw [if_pos ⟨by omega, by omega, by omega, by omega, h3⟩]
  rfl
theorem walk_D : ∀ (ts : List Stp) (fs gs : List Pm), (∀ p ∈ fs, can3 p) → walk ts fs = some gs → walkD (ts.map stpD) fs = some gs
  | [], fs, gs, _, h => h
  | t :: r, fs, gs, hc, h => by
    have h' : (match stepOf fs t with | some gs => walk r gs | none => none) = some gs := h
    unfold stepOf at h'
    by_cases c : t.1 < fs.length ∧ t.2.1 < fs.length ∧ canB (gp fs t.1) (gp fs t.2.1) t.2.2 = true
    · rw [if_pos c] at h'
      have h2 : walk r (fs ++ [stepP (gp fs t.1) (gp fs t.2.1) t.2.2]) = some gs := h'
      have x3 := four (hc _ (gp_mem c.1)) c.2.2
      show (match stpOf fs.length (stpD t) with | none => none | some t => if canB (gp fs t.1) (gp fs t.2.1) t.2.2 = true then walkD (r.map stpD) (fs ++ [stepP (gp fs t.1) (gp fs t.2.1) t.2.2]) else none) = some gs
      rw [stpOf_stpD c.1 c.2.1 (by omega)]
      show (if canB (gp fs t.1) (gp fs t.2.1) t.2.2 = true then walkD (r.map stpD) (fs ++ [stepP (gp fs t.1) (gp fs t.2.1) t.2.2]) else none) = some gs
      rw [if_pos c.2.2]
      refine walk_D r _ _ (fun p hp => ?_) h2
      rcases List.mem_append.mp hp with hp | hp
      · exact hc p hp
      · rw [List.mem_singleton.mp hp]
        exact can3_step (hc _ (gp_mem c.1)) (hc _ (gp_mem c.2.1))
    · rw [if_neg c] at h'
      cases h'
def smallS (n : Nat) (t : Stp) : Prop := t.1 < n ∧ t.2.1 < n ∧ 1 ≤ t.2.2 ∧ t.2.2 ≤ 3
theorem walk_small : ∀ (ts : List Stp) (fs gs : List Pm), (∀ p ∈ fs, can3 p) → walk ts fs = some gs → ∀ t ∈ ts, smallS (fs.length + ts.length) t
  | [], fs, gs, _, h => fun t ht => absurd ht (by simp)
  | t :: r, fs, gs, hc, h => by
    have h' : (match stepOf fs t with | some gs => walk r gs | none => none) = some gs := h
    unfold stepOf at h'
    by_cases c : t.1 < fs.length ∧ t.2.1 < fs.length ∧ canB (gp fs t.1) (gp fs t.2.1) t.2.2 = true
    · rw [if_pos c] at h'
      have h2 : walk r (fs ++ [stepP (gp fs t.1) (gp fs t.2.1) t.2.2]) = some gs := h'
      have x3 := four (hc _ (gp_mem c.1)) c.2.2
      have ih := walk_small r _ gs (fun p hp => by
        rcases List.mem_append.mp hp with hp | hp
        · exact hc p hp
        · rw [List.mem_singleton.mp hp]
          exact can3_step (hc _ (gp_mem c.1)) (hc _ (gp_mem c.2.1))) h2
      intro u hu
      rcases List.mem_cons.mp hu with rfl | hu
      · have c1 := c.1
        have c2 := c.2.1
        simp only [List.length_cons]
        exact ⟨by omega, by omega, x3.1, x3.2⟩
      · obtain ⟨a1, a2, a3⟩ := ih u hu
        simp only [List.length_append, List.length_cons, List.length_nil] at a1 a2 ⊢
        exact ⟨by omega, by omega, a3⟩
    · rw [if_neg c] at h'
      cases h'
theorem int_shown : ∀ n : Fin 64, (PyData.shown (.int (n : Nat))).length ≤ 20 := by decide +kernel
theorem int_shown' {i : Int} (h0 : 0 ≤ i) (h1 : i < 64) : (PyData.shown (.int i)).length ≤ 20 ∧ i.natAbs.log2 < 1920 := by
  obtain ⟨n, rfl⟩ : ∃ n : Nat, i = (n : Int) := ⟨i.toNat, by omega⟩
  refine ⟨int_shown ⟨n, by omega⟩, ?_⟩
  have h2 : ((n : Int)).natAbs = n := rfl
  rw [h2]
  have h3 : n.log2 ≤ n := Nat.log2_le_self n
  omega
theorem stp_shown {t : Stp} (h : smallS 60 t) : (PyData.shown (stpD t)).length ≤ 100 ∧ (stpD t).showable = true ∧ (stpD t).hasDict = false := by
  obtain ⟨a1, a2, a3, a4⟩ := h
  obtain ⟨b1, c1⟩ := int_shown' (i := (t.1 : Int)) (by omega) (by omega)
  obtain ⟨b2, c2⟩ := int_shown' (i := (t.2.1 : Int)) (by omega) (by omega)
  obtain ⟨b3, c3⟩ := int_shown' (i := t.2.2) (by omega) (by omega)
  refine ⟨?_, ?_, rfl⟩
  · have e := fmt_text [PyData.shown (.int (t.1 : Int)), PyData.shown (.int (t.2.1 : Int)), PyData.shown (.int t.2.2)]
    rw [piled_cons, piled_cons, piled_cons, piled_nil] at e
    have e2 : PyData.shown (stpD t) = tupleText [PyData.shown (.int (t.1 : Int)), PyData.shown (.int (t.2.1 : Int)), PyData.shown (.int t.2.2)] := by
      show PyData.shown (.tuple [.int (t.1 : Int), .int (t.2.1 : Int), .int t.2.2]) = _
      simp only [PyData.shown, PyData.shownAll]
    rw [e2]
    omega
  · show PyData.showable (.tuple [.int (t.1 : Int), .int (t.2.1 : Int), .int t.2.2]) = true
    simp only [PyData.showable, PyData.showableAll, decide_eq_true c1, decide_eq_true c2, decide_eq_true c3, Bool.and_true]
theorem stps_shown : ∀ {ts : List Stp}, (∀ t ∈ ts, smallS 60 t) → piled (PyData.shownAll (ts.map stpD)) ≤ 102 * ts.length ∧ PyData.showableAll (ts.map stpD) = true ∧ PyData.hasDictAll (ts.map stpD) = false
  | [], _ => ⟨Nat.zero_le _, rfl, rfl⟩
  | t :: r, h => by
    obtain ⟨a1, a2, a3⟩ := stp_shown (h t List.mem_cons_self)
    obtain ⟨b1, b2, b3⟩ := stps_shown (ts := r) fun u hu => h u (List.mem_cons_of_mem _ hu)
    rw [List.map_cons]
    refine ⟨?_, ?_, ?_⟩
    · simp only [PyData.shownAll, piled_cons, List.length_cons]
      omega
    · simp only [PyData.showableAll, a2, b2, Bool.and_true]
    · simp only [PyData.hasDictAll, a3, b3, Bool.or_false]
theorem stps_repr {ts : List Stp} (h : ∀ t ∈ ts, smallS 60 t) (l : ts.length ≤ 26) : (PyData.tuple (ts.map stpD)).showable = true ∧ (PyData.tuple (ts.map stpD)).hasDict = false ∧ (PyData.tuple (ts.map stpD)).depth ≤ 60 ∧ (PyData.tuple (ts.map stpD)).shown.length ≤ sizeLine := by
  obtain ⟨a1, a2, a3⟩ := stps_shown h
  refine ⟨by simp only [PyData.showable, a2], by simp only [PyData.hasDict, a3], ?_, ?_⟩
  · have go : ∀ l : List Stp, PyData.depthAll (l.map stpD) ≤ 1 := by
      intro l
      induction l with
      | nil => exact Nat.zero_le _
      | cons t r ih =>
        show max (PyData.depth (stpD t)) (PyData.depthAll (r.map stpD)) ≤ 1
        have : PyData.depth (stpD t) = 1 := rfl
        omega
    have e : (PyData.tuple (ts.map stpD)).depth = PyData.depthAll (ts.map stpD) + 1 := rfl
    have := go ts
    omega
  · have e := fmt_text (PyData.shownAll (ts.map stpD))
    have e2 : (PyData.tuple (ts.map stpD)).shown = tupleText (PyData.shownAll (ts.map stpD)) := by simp only [PyData.shown]
    have big : 100000 ≤ sizeLine := by decide
    rw [e2]
    omega
end K07

set_option Elab.async false
set_option linter.all false
set_option pp.maxSteps 800
set_option pp.deepTerms false
set_option maxRecDepth 100000
set_option maxHeartbeats 8000000
namespace K07
open PySem PySem.Spec PyProof.Rows L2 Say
/-! ### calls by keywords alone -/
section
variable {X : Cx} {CX : CXT} {k : Nat} {f : Addr} {fd : FuncData} {ps ks : List Str} {sp : Sp} {E : XK} {x : Str} {p pos : Pos} {kws : List Keyword} {tk : TA} {g : List Value → List Value → List Value} {gV : List V → List V → List V}
theorem pe_callK0 (F : FnOk X.prog X.w X.K X.mg X.base CX k f fd ps sp) (hr : Room k X.A) (hg : Gl X x) (hm : X.mg x = some (.ref f)) (hk : PySem.W.keepIn X.K (.ref f) = true) (hb : KBinds X.K fd ps ks g gV) (hx : Passes CX X E)
    (hkw : PK X kws tk) (hall : (backToKw pos (keywordEach kws X.env)).all (·.1.isSome) = true := by rfl) (hks : (backToKw pos (keywordEach kws X.env)).filterMap (·.1) = ks := by rfl)
    (hdb : (x == ("__debug__" : Str)) = false := by decide)
    (hpl : ((backTo pos (starEach [] X.env)).any (·.1) || (backToKw pos (keywordEach kws X.env)).any (·.1.isNone)) = false := by rfl) :
    PE X (.Call (.Name x p) [] kws pos) (tCallK sp gV E tNil tk) := by
  refine ⟨fun pins s σ H Q I h => ?_⟩
  refine wpAny_Call_Name_kw (ld_glob I hg hm ?_ hdb)
  refine PySem.W.callWith_KW0 (h₀ := X.base) I.ok.mod.kin hk hall ?_ hpl
  refine thn (hkw.run pos pins s σ H _ I h) fun ws s2 ⟨zs, H2, I2, rz, q2⟩ => ⟨I2.kIn, ?_⟩
  rw [hks]
  exact run_fnk F hr hb hx I2 .nil rz q2
end
/-- one value by its name -/
def g1 {α : Type} : List α → List α → List α
  | [], [a] => [a]
  | _, _ => []
/-- two values by their names, turned round -/
def g2 {α : Type} : List α → List α → List α
  | [], [a, b] => [b, a]
  | _, _ => []
theorem g1_rel {vs : List V} {us : List Value} {zs : List V} {ws : List Value} (h1 : Vals vs us) (h2 : Vals zs ws) : Vals (g1 vs zs) (g1 us ws) := by
  cases h1 with
  | cons _ _ => exact .nil
  | nil => cases h2 with
    | nil => exact .nil
    | cons r1 r2 => cases r2 with
      | nil => exact .cons r1 .nil
      | cons _ _ => exact .nil
theorem g2_rel {vs : List V} {us : List Value} {zs : List V} {ws : List Value} (h1 : Vals vs us) (h2 : Vals zs ws) : Vals (g2 vs zs) (g2 us ws) := by
  cases h1 with
  | cons _ _ => exact .nil
  | nil => cases h2 with
    | nil => exact .nil
    | cons r1 r2 => cases r2 with
      | nil => exact .nil
      | cons r2 r3 => cases r3 with
        | nil => exact .cons r2 (.cons r1 .nil)
        | cons _ _ => exact .nil
section
variable {P : Program} {w : World} {K : PySem.W.Frag} {mg : Str → Option Value} {base : Heap}
theorem kb1 {fd : FuncData} (F : FnP K "clash_steps" 23 [] (He.ga K "clash_steps") fd) : KBinds K fd ["sheets"] ["sheets"] g1 g1 := by
  obtain ⟨oc, od, dV, kV, doc, pm, an, cdv, ct, osl, rfl, lk, hcd, hD, hK⟩ := F.ex
  rcases hD with ⟨_, rfl⟩ | ⟨e, _⟩
  · refine ⟨fun s us ws _ hl => ?_, g1_rel⟩
    match us, ws, hl with
    | [], [a], _ => exact .of_eq rfl
  · exact absurd rfl e
theorem kb2 {fd : FuncData} (F : FnP K "steps_hold" 24 [] (He.ga K "steps_hold") fd) : KBinds K fd ["sheets", "value"] ["value", "sheets"] g2 g2 := by
  obtain ⟨oc, od, dV, kV, doc, pm, an, cdv, ct, osl, rfl, lk, hcd, hD, hK⟩ := F.ex
  rcases hD with ⟨_, rfl⟩ | ⟨e, _⟩
  · refine ⟨fun s us ws _ hl => ?_, g2_rel⟩
    match us, ws, hl with
    | [], [a, b], _ => exact .of_eq rfl
  · exact absurd rfl e
/-- clash_steps(sheets = ..) and steps_hold(value = .., sheets = ..), nothing let out -/
abbrev EF : XK := fun _ _ _ => False
theorem pe_stepsK {X : Cx} {pos p : Pos} {kws : List Keyword} {tk : TA} (T : Tx X.K X.mg) (hr : Room 5 X.A) (hg : Gl X "clash_steps") (hkw : PK X kws tk) (hall : (backToKw pos (keywordEach kws X.env)).all (·.1.isSome) = true := by rfl)
    (hks : (backToKw pos (keywordEach kws X.env)).filterMap (·.1) = [("sheets" : Str)] := by rfl)
    (hpl : ((backTo pos (starEach [] X.env)).any (·.1) || (backToKw pos (keywordEach kws X.env)).any (·.1.isNone)) = false := by rfl) :
    PE X (.Call (.Name "clash_steps" p) [] kws pos) (tCallK (spSteps X.K) g1 EF tNil tk) := by
  obtain ⟨fd, F⟩ := T.F_clash_steps
  exact pe_callK0 (ok_stepsA (P := X.prog) (w := X.w) (base := X.base) T F) hr hg T.g_clash_steps F.kp (kb1 F) (passes_call LamX.takes0 fun _ _ _ _ z => z) hkw hall hks (by decide) hpl
theorem pe_holdK {X : Cx} {pos p : Pos} {kws : List Keyword} {tk : TA} (T : Tx X.K X.mg) (hr : Room 5 X.A) (hg : Gl X "steps_hold") (hkw : PK X kws tk) (hall : (backToKw pos (keywordEach kws X.env)).all (·.1.isSome) = true := by rfl)
    (hks : (backToKw pos (keywordEach kws X.env)).filterMap (·.1) = [("value" : Str), ("sheets" : Str)] := by rfl)
    (hpl : ((backTo pos (starEach [] X.env)).any (·.1) || (backToKw pos (keywordEach kws X.env)).any (·.1.isNone)) = false := by rfl) :
    PE X (.Call (.Name "steps_hold" p) [] kws pos) (tCallK (spHold X.K) g2 EF tNil tk) := by
  obtain ⟨fd, F⟩ := T.F_steps_hold
  exact pe_callK0 (ok_holdA (P := X.prog) (w := X.w) (base := X.base) T F) hr hg T.g_steps_hold F.kp (kb2 F) (passes_call LamX.takes0 fun _ _ _ _ z => z) hkw hall hks (by decide) hpl
def NLaw : List Str := ["_law_script", "_law_told", "_law_k", "_law_box_here", "_law_places", "_law_sheets", "_law_turn", "_law_marks", "_law_at", "_law_left", "_law_rows_here", "_law_value", "_law_wrong", "_law_place", "_law_mark", "_law_row", "_law_sheet", "_law_right"]
theorem scLaw : FnScope NLaw ["_law_script"] (defScope (top 38)) := ⟨rfl, rfl, rfl, by decide +kernel, rfl, by decide +kernel, by decide +kernel⟩
end
end K07

set_option Elab.async false
set_option linter.all false
set_option pp.maxSteps 800
set_option pp.deepTerms false
set_option maxRecDepth 100000
set_option maxHeartbeats 8000000
namespace K07
open PySem PySem.Spec PyProof.Rows L2 Say
/-! ### sheets drawn -/
/-- the places whose mark is k, among the first i -/
def posU (k : Int) (ms : List Int) (i : Nat) : List Int := (List.range i).filterMap fun j : Nat => if ms[j]? = some k then some ((j : Int) + 1) else none
theorem posU_succ (k : Int) (ms : List Int) (i : Nat) : posU k ms (i + 1) = posU k ms i ++ (if ms[i]? = some k then [(i : Int) + 1] else []) := by
  unfold posU
  rw [List.range_succ, List.filterMap_append]
  by_cases h : ms[i]? = some k
  · simp [h]
  · simp [h]
theorem posU_in {k : Int} {ms : List Int} {i : Nat} {x : Int} (h : x ∈ posU k ms i) : 1 ≤ x ∧ x ≤ i := by
  unfold posU at h
  obtain ⟨j, hj, e⟩ := List.mem_filterMap.mp h
  have := List.mem_range.mp hj
  by_cases c : ms[j]? = some k
  · rw [if_pos c] at e
    cases e
    omega
  · rw [if_neg c] at e
    cases e
theorem posU_len (k : Int) (ms : List Int) (i : Nat) : (posU k ms i).length ≤ i := by
  have h : (posU k ms i).length ≤ (List.range i).length := List.length_filterMap_le _ _
  rwa [List.length_range] at h
theorem posU_srt (k : Int) (ms : List Int) : ∀ i, (posU k ms i).Pairwise (· < ·)
  | 0 => .nil
  | i + 1 => by
    rw [posU_succ]
    refine List.pairwise_append.mpr ⟨posU_srt k ms i, ?_, fun x hx y hy => ?_⟩
    · split
      · exact List.pairwise_singleton _ _
      · exact .nil
    · have := (posU_in hx).2
      split at hy
      · rw [List.mem_singleton.mp hy]
        omega
      · cases hy
/-- a drawn sheet -/
structure Drawn (n : Nat) (p : Pm) : Prop where
  s1 : p.1.Pairwise (· < ·)
  s2 : p.2.Pairwise (· < ·)
  b1 : ∀ x ∈ p.1, 1 ≤ x ∧ x ≤ n
  b2 : ∀ x ∈ p.2, 1 ≤ x ∧ x ≤ n
  l1 : p.1.length ≤ n
  l2 : p.2.length ≤ n
theorem drawn_of (ms : List Int) (n : Nat) : Drawn n (posU 1 ms n, posU 2 ms n) :=
  ⟨posU_srt _ _ _, posU_srt _ _ _, fun _ h => posU_in h, fun _ h => posU_in h, posU_len _ _ _, posU_len _ _ _⟩
theorem ordI_self {xs : List Int} (h : xs.Pairwise (· < ·)) : ordI xs = xs := srt_eq srt_ordI h fun _ => mem_ordI
theorem Drawn.norm {n : Nat} {p : Pm} (h : Drawn n p) : norm p = p := by
  unfold K07.norm
  rw [ordI_self h.s1, ordI_self h.s2]
theorem Drawn.can {n : Nat} {p : Pm} (h : Drawn n p) (n3 : n ≤ 3) : can3 p := ⟨⟨h.s1, fun x hx => by have := h.b1 x hx; omega⟩, h.s2, fun x hx => by have := h.b2 x hx; omega⟩
theorem norms {n : Nat} {ps : List Pm} (h : ∀ p ∈ ps, Drawn n p) : ps.map norm = ps := by
  have : ps.map norm = ps.map id := List.map_congr_left fun p hp => (h p hp).norm
  rw [this, List.map_id]
/-! ### what need_premises makes of them -/
theorem side_ok {n : Nat} (n3 : n ≤ 3) {xs : List Int} (hx : ∀ x ∈ xs, 1 ≤ x ∧ x ≤ n) {d : PyData} (e : itemsD d = some (xs.map PyData.int)) : sideD 3 d = some xs := by
  unfold sideD
  rw [e]
  have h1 : (xs.map PyData.int).all (okP 3) = true := by
    rw [List.all_map, List.all_eq_true]
    intro x h
    have := hx x h
    show okP 3 (.int x) = true
    simp only [okP]
    simp
    omega
  have h2 : (xs.map PyData.int).filterMap intD = xs := by
    rw [List.filterMap_map]
    have : (intD ∘ PyData.int) = fun x : Int => some x := rfl
    rw [this, List.filterMap_some]
  show (if (xs.map PyData.int).all (okP 3) = true then some ((xs.map PyData.int).filterMap intD) else none) = some xs
  rw [if_pos h1, h2]
theorem prem_ok {n : Nat} (n3 : n ≤ 3) {p : Pm} (h : Drawn n p) {d a b : PyData} (e : itemsD d = some [a, b]) (ea : itemsD a = some (p.1.map PyData.int)) (eb : itemsD b = some (p.2.map PyData.int)) : premD 3 d = some p := by
  unfold premD
  rw [e]
  show (match sideD 3 a, sideD 3 b with | some l, some r => some (ordI l, ordI r) | _, _ => none) = some p
  rw [side_ok n3 h.b1 ea, side_ok n3 h.b2 eb]
  show some (ordI p.1, ordI p.2) = some p
  rw [ordI_self h.s1, ordI_self h.s2]
theorem go_ok {f : Pm → PyData} : ∀ (ps : List Pm) (i : Nat), (∀ p ∈ ps, premD 3 (f p) = some p) → needGo 3 i (ps.map f) = .inr ps
  | [], _, _ => rfl
  | p :: ps, i, h => by
    rw [List.map_cons, needGo, h p List.mem_cons_self, go_ok ps (i + 1) fun q hq => h q (List.mem_cons_of_mem _ hq)]
theorem go_bad {f : Pm → PyData} {wd : PyData} (hw : premD 3 wd = none) (rest : List PyData) : ∀ (ps : List Pm) (i : Nat), (∀ p ∈ ps, premD 3 (f p) = some p) → needGo 3 i (ps.map f ++ wd :: rest) = .inl ((i + ps.length : Nat) : Int)
  | [], i, _ => by
    rw [List.map_nil, List.nil_append, needGo, hw]
    rfl
  | p :: ps, i, h => by
    rw [List.map_cons, List.cons_append, needGo, h p List.mem_cons_self, go_bad hw rest ps (i + 1) fun q hq => h q (List.mem_cons_of_mem _ hq)]
    have e : i + 1 + ps.length = i + (p :: ps).length := by
      rw [List.length_cons]
      omega
    rw [e]
def liD (p : Pm) : PyData := .list [.list (p.1.map PyData.int), .list (p.2.map PyData.int)]
theorem few_of {ds : List PyData} {d : PyData} (e : itemsD d = some ds) (l : ds.length ≤ 200) (h : ∀ x ∈ ds, fewD x) : fewAll d := fun es e2 => by
  rw [e] at e2
  cases e2
  exact ⟨h, l⟩
theorem few_side {n : Nat} (n3 : n ≤ 3) {p : Pm} (h : Drawn n p) {d a b : PyData} (e : itemsD d = some [a, b]) (ea : itemsD a = some (p.1.map PyData.int)) (eb : itemsD b = some (p.2.map PyData.int)) : fewD d := fun ds e2 s hs es e3 => by
  rw [e] at e2
  cases e2
  have l1 := h.l1
  have l2 := h.l2
  rcases List.mem_cons.mp hs with rfl | hs
  · rw [ea] at e3
    cases e3
    rw [List.length_map]
    omega
  · rw [List.mem_singleton.mp hs, eb] at e3
    cases e3
    rw [List.length_map]
    omega
/-! ### rows and clashes -/
theorem getD_range (v : Int → Bool) {n : Nat} {x : Int} (h : 1 ≤ x ∧ x ≤ n) : atR ((List.range n).map fun i : Nat => if v ((i : Int) + 1) = true then (1 : Int) else 0) x = if v x = true then 1 else 0 := by
  unfold atR
  have hi : (x - 1).toNat < n := by omega
  rw [List.getD_eq_getElem?_getD, List.getElem?_map, List.getElem?_range hi]
  have e : (((x - 1).toNat : Nat) : Int) + 1 = x := by omega
  show (if v ((((x - 1).toNat : Nat) : Int) + 1) = true then (1 : Int) else 0) = _
  rw [e]
theorem awake_iff {ps : List Pm} {r : List Int} : awakeB ps r = true ↔ ∀ p ∈ ps, (∃ x ∈ p.1, atR r x = 0) ∨ ∃ x ∈ p.2, atR r x = 1 := by
  unfold awakeB
  rw [List.all_eq_true]
  have go : ∀ (xs : List Int) (k : Int), ¬ offL r k xs = [] ↔ ∃ x ∈ xs, atR r x = k := fun xs k => by
    unfold offL
    rw [List.filter_eq_nil_iff]
    constructor
    · intro h
      refine Classical.byContradiction fun c => h fun x hx => ?_
      intro z
      exact c ⟨x, hx, of_decide_eq_true z⟩
    · rintro ⟨x, hx, e⟩ h
      exact h x hx (decide_eq_true e)
  refine forall_congr' fun p => forall_congr' fun hp => ?_
  rw [← go, ← go, Bool.not_eq_true', Bool.and_eq_false_iff, decide_eq_false_iff_not, decide_eq_false_iff_not]
theorem row_there {n : Nat} {ps : List Pm} (hd : ∀ p ∈ ps, Drawn n p) {v : Int → Bool} (h : ∀ p ∈ ps, hold v p) : (rowsL n).filter (awakeB ps) ≠ [] := by
  have hm : ((List.range n).map fun i : Nat => if v ((i : Int) + 1) = true then (1 : Int) else 0) ∈ (rowsL n).filter (awakeB ps) := by
    refine List.mem_filter.mpr ⟨rowsL_all v n, awake_iff.mpr fun p hp => ?_⟩
    rcases h p hp with ⟨x, hx, e⟩ | ⟨x, hx, e⟩
    · refine .inl ⟨x, hx, ?_⟩
      rw [getD_range v ((hd p hp).b1 x hx), e]
      rfl
    · refine .inr ⟨x, hx, ?_⟩
      rw [getD_range v ((hd p hp).b2 x hx), e]
      rfl
  intro z
  rw [z] at hm
  cases hm
theorem no_row {n : Nat} {ps : List Pm} (h : ¬ ∃ v : Int → Bool, ∀ p ∈ ps, hold v p) : (rowsL n).filter (awakeB ps) = [] := by
  rw [List.filter_eq_nil_iff]
  intro r hr ha
  refine h ⟨fun x => decide (atR r x = 1), fun p hp => ?_⟩
  rcases awake_iff.mp ha p hp with ⟨x, hx, e⟩ | ⟨x, hx, e⟩
  · refine .inl ⟨x, hx, ?_⟩
    show decide (atR r x = 1) = false
    rw [e]
    rfl
  · exact .inr ⟨x, hx, decide_eq_true e⟩
theorem told_rows {n : Nat} (n3 : n ≤ 3) {ps : List Pm} (hd : ∀ p ∈ ps, Drawn n p) : (found ps = none ↔ (rowsL n).filter (awakeB ps) ≠ []) := by
  have hc : ∀ p ∈ ps, can3 p := fun p hp => (hd p hp).can n3
  cases e : found ps with
  | none =>
    obtain ⟨v, hv⟩ := found_none hc e
    exact ⟨fun _ => row_there hd hv, fun _ => rfl⟩
  | some ts =>
    have R := found_some hc e
    exact ⟨(fun z => nomatch z), fun z => absurd (no_row R.no) z⟩
/-! ### the court's own anchors -/
theorem anchor3 : (found [([], [1]), ([], [2]), ([1, 2], [])]).map List.length = some 2 := by decide +kernel
theorem anchor0 : found [([], [])] = some [] := by decide +kernel
theorem anchorN : found [] = none := by decide +kernel
end K07

set_option Elab.async false
set_option linter.all false
set_option pp.maxSteps 800
set_option pp.deepTerms false
set_option maxRecDepth 100000
set_option maxHeartbeats 8000000
namespace K07
open PySem PySem.Spec PyProof.Rows L2 Say
/-! ### data held apart from the lists that still grow -/
theorem del_up {H : Hp} {D : Addr} {o : HO} : del (upd H D o) D = del H D := by
  funext b
  by_cases e : b = D
  · rw [e]
    unfold del
    rw [if_pos rfl, if_pos rfl]
  · rw [del_ne e, del_ne e, upd_ne e]
theorem del_le {H : Hp} {D : Addr} : Same (del H D) H := fun b o h => by
  by_cases e : b = D
  · rw [e] at h
    unfold del at h
    rw [if_pos rfl] at h
    cases h
  · rwa [del_ne e] at h
theorem del_mono {H H' : Hp} {D : Addr} (s : Same H H') : Same (del H D) (del H' D) := fun b o h => by
  by_cases e : b = D
  · rw [e] at h
    unfold del at h
    rw [if_pos rfl] at h
    cases h
  · rw [del_ne e] at h ⊢
    exact s _ _ h
theorem del_but {H H' : Hp} {p : Addr} (s : But p H H') : Same (del H p) (del H' p) := fun b o h => by
  by_cases e : b = p
  · rw [e] at h
    unfold del at h
    rw [if_pos rfl] at h
    cases h
  · rw [del_ne e] at h ⊢
    exact s _ _ h e
theorem del_new {H : Hp} {D : Addr} (n : H D = none) : Same H (del H D) := fun b o h => by rwa [del_ne (ne_of_none h n)]
/-- a growing list of data -/
def LX (K : PySem.W.Frag) (H : Hp) (D : Addr) (ds : List PyData) : Prop := ∃ vs, H D = some (.lst vs) ∧ DpAll K (del H D) vs ds
theorem LX.new {K : PySem.W.Frag} {H : Hp} {D : Addr} : LX K (upd H D (.lst [])) D [] := ⟨[], upd_same, .nil⟩
theorem LX.same {K : PySem.W.Frag} {H H' : Hp} {D : Addr} {ds : List PyData} (h : LX K H D ds) (s : Same H H') : LX K H' D ds := by
  obtain ⟨vs, h1, h2⟩ := h
  exact ⟨vs, s _ _ h1, dpAll_mono (del_mono s) _ _ h2⟩
theorem LX.push {K : PySem.W.Frag} {H : Hp} {D : Addr} {vs : List V} {ds : List PyData} {y : V} {d : PyData} (h2 : DpAll K (del H D) vs ds) (hy : Dp K (del H D) y d) : LX K (upd H D (.lst (vs ++ [y]))) D (ds ++ [d]) :=
  ⟨_, upd_same, by rw [del_up]; exact dpAll_app h2 (.cons hy .nil)⟩
theorem LX.dp {K : PySem.W.Frag} {H : Hp} {D : Addr} {ds : List PyData} (h : LX K H D ds) : Dp K H (.ref D) (.list ds) := by
  obtain ⟨vs, h1, h2⟩ := h
  exact .lst (SqL.of h1) (dpAll_mono del_le _ _ h2)
/-! ### the drawn sheets at S, the box at p -/
structure Shs (K : PySem.W.Frag) (H : Hp) (p S : Addr) (ps : List Pm) : Prop where
  np : S ≠ p
  x : ∃ vs, H S = some (.lst vs) ∧ DpAll K (del (del H p) S) vs (ps.map shD)
theorem Shs.but {K : PySem.W.Frag} {H H' : Hp} {p S : Addr} {ps : List Pm} (h : Shs K H p S ps) (b : But p H H') : Shs K H' p S ps := by
  obtain ⟨vs, h1, h2⟩ := h.x
  exact ⟨h.np, vs, b _ _ h1 h.np, dpAll_mono (del_mono (del_but b)) _ _ h2⟩
theorem Shs.same {K : PySem.W.Frag} {H H' : Hp} {p S : Addr} {ps : List Pm} (h : Shs K H p S ps) (s : Same H H') : Shs K H' p S ps := h.but (But.of s)
theorem Shs.ext {K : PySem.W.Frag} {H H' : Hp} {p S : Addr} {ps : List Pm} (h : Shs K H p S ps) (s : LamX.ExtN H H') : Shs K H' p S ps := by
  obtain ⟨vs, h1, h2⟩ := h.x
  refine ⟨h.np, vs, s _ _ h1 (fun ps z => by cases z), dpAll_ext (fun b o e n => ?_) _ _ h2⟩
  by_cases e1 : b = S
  · rw [e1] at e
    unfold del at e
    rw [if_pos rfl] at e
    cases e
  · rw [del_ne e1] at e ⊢
    by_cases e2 : b = p
    · rw [e2] at e
      unfold del at e
      rw [if_pos rfl] at e
      cases e
    · rw [del_ne e2] at e ⊢
      exact s _ _ e n
theorem Shs.dp {K : PySem.W.Frag} {H : Hp} {p S : Addr} {ps : List Pm} (h : Shs K H p S ps) : Dp K H (.ref S) (.list (ps.map shD)) := by
  obtain ⟨vs, h1, h2⟩ := h.x
  exact .lst (SqL.of h1) (dpAll_mono (same_trans del_le del_le) _ _ h2)
theorem Shs.push {K : PySem.W.Frag} {H : Hp} {p S T L R : Addr} {ps : List Pm} {q : Pm} (h : Shs K H p S ps) (hT : H T = some (.tup [.ref L, .ref R])) (hL : H L = some (.lst (q.1.map V.int))) (hR : H R = some (.lst (q.2.map V.int)))
    (np : T ≠ p ∧ L ≠ p ∧ R ≠ p) (ns : T ≠ S ∧ L ≠ S ∧ R ≠ S) : ∃ vs, H S = some (.lst vs) ∧ vs.length = ps.length ∧ Shs K (upd H S (.lst (vs ++ [.ref T]))) p S (ps ++ [q]) := by
  obtain ⟨vs, h1, h2⟩ := h.x
  have at_ : ∀ {b : Addr} {o : HO}, H b = some o → b ≠ p → b ≠ S → del (del H p) S b = some o := fun e n1 n2 => by rw [del_ne n2, del_ne n1]; exact e
  have l := dpAll_len h2
  rw [List.length_map] at l
  refine ⟨vs, h1, l, h.np, _, upd_same, ?_⟩
  have e : Same (del (del H p) S) (del (del (upd H S (.lst (vs ++ [.ref T]))) p) S) := fun b o hb => by
    by_cases e1 : b = S
    · rw [e1] at hb
      unfold del at hb
      rw [if_pos rfl] at hb
      cases hb
    · rw [del_ne e1] at hb ⊢
      by_cases e2 : b = p
      · rw [e2] at hb
        unfold del at hb
        rw [if_pos rfl] at hb
        cases hb
      · rw [del_ne e2] at hb ⊢
        rw [upd_ne e1]
        exact hb
  rw [List.map_append]
  refine dpAll_app (dpAll_mono e _ _ h2) (.cons (dp_mono e _ _ (.tup (SqT.of (at_ hT np.1 ns.1)) (.cons (.lst (SqL.of (at_ hL np.2.1 ns.2.1)) (ints_dp _)) (.cons (.lst (SqL.of (at_ hR np.2.2 ns.2.2)) (ints_dp _)) .nil)))) .nil)
/-- .. for i, x in enumerate(xs) -/
theorem lc_enP {K : PySem.W.Frag} {a : Addr} {xs : List V} {g : TG} {tt : TT} {te : TE} {vs : List Nat} {σ : L2.St} {H : Hp} {Qd : Addr → Hp → Prop} (Pv : Addr → Nat → Hp → Prop) (hq : SqL K H a xs) (h0 : ∀ D, H D = none → Pv D 0 (upd H D (.lst [])))
    (hk : ∀ D i H', Pv D i H' → Same H H')
    (hs : ∀ D, H D = none → ∀ i x H' T, xs[i]? = some x → Pv D i H' → H' T = none → g (.ref T) (wipe σ vs) (upd H' T (.tup [.int (i : Nat), x])) fun σ2 H2 => wipe σ2 vs = wipe σ vs ∧ tt σ2 H2 fun b H3 =>
      if b = true then te σ2 H3 fun y H4 => ∃ acc, H4 D = some (.lst acc) ∧ acc.length < sizeLine ∧ Pv D (i + 1) (upd H4 D (.lst (acc ++ [y]))) else Pv D (i + 1) H3)
    (hd : ∀ D H', H D = none → Pv D xs.length H' → Qd D H') :
    ((∃ xs, SqL K H a xs) ∧ ∀ D, H D = none → LcR (Ite K a) g tt te vs σ H D (Qd D)) ∨ ((∃ xs, SqT K H a xs) ∧ ∀ D, H D = none → LcR (IteT K a) g tt te vs σ H D (Qd D)) := by
  refine .inl ⟨⟨xs, hq⟩, fun D hD => lc_it (walk_enum (K := K) (a := a) (xs := xs)) (Pv D) (h0 D hD) (fun i H' hi p => (hk D i H' p).seq hq) (fun i x H' H2 hi p y => ?_) fun H' p => hd D H' hD p⟩
  obtain ⟨T, u, v, rfl, n, rfl, e1, e2⟩ := y
  cases e1
  exact hs D hD i v H' T e2 p n
/-! ### what an iteration keeps -/
theorem ext_but {H H1 H2 : Hp} {p : Addr} (e : LamX.ExtN H H1) (np : H p = none) (b : But p H1 H2) : LamX.ExtN H H2 := fun x o h n => b x o (e x o h n) (ne_of_none h np)
theorem tab_but {H H' : Hp} {P p : Addr} {q : Str} (h : LamX.TabS H P q) (hB : BoxAt H p) (b : But p H H') : LamX.TabS H' P q := by
  obtain ⟨x, y, z, hp⟩ := hB
  obtain ⟨ps, hP, ht, ha⟩ := h
  refine ⟨ps, b _ _ hP (fun z => by rw [z, hp] at hP; cases hP), ht, fun pos cv hc => ?_⟩
  obtain ⟨c, e, ec⟩ := ha pos cv hc
  refine ⟨c, e, b _ _ ec fun z => ?_⟩
  rw [z, hp] at ec
  unfold LamX.CodeO at ec
  cases ec
end K07

set_option Elab.async false
set_option linter.all false
set_option pp.maxSteps 800
set_option pp.deepTerms false
set_option maxRecDepth 100000
set_option maxHeartbeats 8000000
namespace K07
open PySem PySem.Spec PyProof.Rows L2 Say
def loopB : List Stmt := match defBody (top 38) with
  | _ :: _ :: .For _ _ b _ _ :: _ => b
  | _ => []
/-- sheets told with one that is none -/
theorem BoxAt.ext {p : Addr} {H H' : Hp} (h : BoxAt H p) (s : LamX.ExtN H H') : BoxAt H' p := by
  obtain ⟨x, y, z, h⟩ := h
  exact ⟨x, y, z, s _ _ h fun ps e => by cases e⟩
theorem dpAll_take {K : PySem.W.Frag} {H : Hp} : ∀ {vs : List V} {ds : List PyData} (j : Nat), DpAll K H vs ds → DpAll K H (vs.take j) (ds.take j)
  | _, _, 0, _ => .nil
  | _, _, j + 1, h => by
    cases h with
    | nil => exact .nil
    | cons h1 h2 => exact .cons h1 (dpAll_take j h2)
theorem dpAll_drop {K : PySem.W.Frag} {H : Hp} : ∀ {vs : List V} {ds : List PyData} (j : Nat), DpAll K H vs ds → DpAll K H (vs.drop j) (ds.drop j)
  | _, _, 0, h => h
  | _, _, j + 1, h => by
    cases h with
    | nil => exact .nil
    | cons h1 h2 => exact dpAll_drop j h2
theorem cut_to {xs : List V} {j : Nat} (h : j ≤ xs.length) : cutV xs none (some (j : Int)) = xs.take j := by
  unfold cutV
  rw [HT.sIx_nat, HT.sIx_none, Nat.min_eq_left h]
  rfl
theorem cut_from {xs : List V} {j : Nat} (h : j ≤ xs.length) : cutV xs (some (j : Int)) none = xs.drop j := by
  unfold cutV
  rw [HT.sIx_nat, HT.sIx_none, Nat.min_eq_left h]
  exact List.take_of_length_le (by rw [List.length_drop]; exact Nat.le_refl _)
theorem two_same (k : Int) : PyData.eqv (.list [.int k, .int k]) (.list [.int k, .int k]) = true := by
  have e : PyData.eqv (.list ([k, k].map PyData.int)) (.list ([k, k].map PyData.int)) = decide ([k, k] = [k, k]) := ints_eqv [k, k] [k, k]
  rw [decide_eq_true rfl] at e
  exact e
def tailB : List Stmt := loopB.drop 8
theorem told_but {K : PySem.W.Frag} {H H' : Hp} {p : Addr} {v : V} {o : Option (List Stp)} (h : Dp K H v (toldD o)) (hB : BoxAt H p) (b : But p H H') : Dp K H' v (toldD o) := by
  obtain ⟨x, y, z, hp⟩ := hB
  have tk : ∀ {c : Addr} {xs : List V}, SqT K H c xs → SqT K H' c xs := fun {c xs} hs => by
    rcases hs with (hs | ⟨ob, hs⟩) | hs
    · exact .inl (.inl (b _ _ hs fun z => by rw [z, hp] at hs; cases hs))
    · exact .inl (.inr ⟨ob, b _ _ hs fun z => by rw [z, hp] at hs; cases hs⟩)
    · exact .inr hs
  cases o with
  | none =>
    cases h
    exact .non
  | some ts =>
    cases h with
    | @tup c vs _ hs ha =>
      refine .tup (tk hs) ?_
      have go : ∀ (ts : List Stp) (vs : List V), DpAll K H vs (ts.map stpD) → DpAll K H' vs (ts.map stpD) := by
        intro ts
        induction ts with
        | nil =>
          intro vs h
          cases h
          exact .nil
        | cons t r ih =>
          intro vs h
          cases h with
          | cons h1 h2 =>
            refine .cons ?_ (ih _ h2)
            cases h1 with
            | tup hq hx =>
              refine .tup (tk hq) ?_
              cases hx with
              | cons g1 g2 =>
                cases g1
                cases g2 with
                | cons g1 g2 =>
                  cases g1
                  cases g2 with
                  | cons g1 g2 =>
                    cases g1
                    cases g2
                    exact .cons (.int _) (.cons (.int _) (.cons (.int _) .nil))
      exact go ts vs ha
/-- the text of what was told -/
def toldTx (o : Option (List Stp)) : Str := (toldD o).shown
theorem told_repr {K : PySem.W.Frag} {H : Hp} {v : V} {n : Nat} {ps : List Pm} {o : Option (List Stp)} {Q : VK} (n3 : n ≤ 3) (l7 : ps.length ≤ 7) (hdr : ∀ q ∈ ps, Drawn n q) (fo : found ps = o) (h : Dp K H v (toldD o)) (q : Q (.str (toldTx o)) H) : rRepr K [v] H Q := by
  cases o with
  | none =>
    cases h
    exact ⟨_, .none, rfl, .non, .inl rfl, rfl, rfl, by decide, by decide, q⟩
  | some ts =>
    have hc : ∀ p ∈ ps, can3 p := fun p hp => (hdr p hp).can n3
    have R := found_some hc fo
    obtain ⟨fs, hw, _, _⟩ := R.come
    have sm : ∀ t ∈ ts, smallS 60 t := fun t ht => by
      obtain ⟨a1, a2, a3⟩ := walk_small ts ps fs hc hw t ht
      have := R.few
      exact ⟨by omega, by omega, a3⟩
    obtain ⟨r1, r2, r3, r4⟩ := stps_repr sm R.few
    cases h with
    | tup hs ha => exact ⟨_, .tuple (ts.map stpD), rfl, .tup hs ha, .inr (.inr ⟨_, rfl⟩), r1, r2, r3, r4, q⟩
theorem bl_repr {K : PySem.W.Frag} {H : Hp} {b : Bool} {Q : VK} (q : Q (.str (PyData.shown (.bool b))) H) : rRepr K [.bl b] H Q :=
  ⟨_, .bool b, rfl, .bl b, .inr (.inl ⟨_, rfl⟩), rfl, rfl, by cases b <;> decide, by cases b <;> decide, q⟩
def tuD (p : Pm) : PyData := .tuple [.tuple (p.1.map PyData.int), .tuple (p.2.map PyData.int)]
theorem need_of {n : Nat} (n3 : n ≤ 3) {ps : List Pm} (hdr : ∀ q ∈ ps, Drawn n q) {f : Pm → PyData} (hf : ∀ q : Pm, ∃ a b, itemsD (f q) = some [a, b] ∧ itemsD a = some (q.1.map PyData.int) ∧ itemsD b = some (q.2.map PyData.int)) {d : PyData} (e : itemsD d = some (ps.map f)) : needD 3 d = .inr ps := by
  unfold needD
  rw [e]
  exact go_ok ps 0 fun q hq => by
    obtain ⟨a, b, e1, e2, e3⟩ := hf q
    exact prem_ok n3 (hdr q hq) e1 e2 e3
theorem few_of' {n : Nat} (n3 : n ≤ 3) {ps : List Pm} (l7 : ps.length ≤ 7) (hdr : ∀ q ∈ ps, Drawn n q) {f : Pm → PyData} (hf : ∀ q : Pm, ∃ a b, itemsD (f q) = some [a, b] ∧ itemsD a = some (q.1.map PyData.int) ∧ itemsD b = some (q.2.map PyData.int)) {d : PyData} (e : itemsD d = some (ps.map f)) : fewAll d := by
  refine few_of e (by rw [List.length_map]; omega) fun x hx => ?_
  obtain ⟨q, hq, rfl⟩ := List.mem_map.mp hx
  obtain ⟨a, b, e1, e2, e3⟩ := hf q
  exact few_side n3 (hdr q hq) e1 e2 e3
theorem f_sh (q : Pm) : ∃ a b, itemsD (shD q) = some [a, b] ∧ itemsD a = some (q.1.map PyData.int) ∧ itemsD b = some (q.2.map PyData.int) := ⟨_, _, rfl, rfl, rfl⟩
theorem f_li (q : Pm) : ∃ a b, itemsD (liD q) = some [a, b] ∧ itemsD a = some (q.1.map PyData.int) ∧ itemsD b = some (q.2.map PyData.int) := ⟨_, _, rfl, rfl, rfl⟩
theorem f_tu (q : Pm) : ∃ a b, itemsD (tuD q) = some [a, b] ∧ itemsD a = some (q.1.map PyData.int) ∧ itemsD b = some (q.2.map PyData.int) := ⟨_, _, rfl, rfl, rfl⟩
theorem tu_firm (q : Pm) : firm (tuD q) = true := by
  show (firmAll (q.1.map PyData.int) && (firmAll (q.2.map PyData.int) && true)) = true
  rw [firmAll_map (fun _ => rfl), firmAll_map (fun _ => rfl)]
  rfl
/-- both kinds of answer of clash_steps at once -/
def spSteps2 (K : PySem.W.Frag) : Sp := fun vs H Q _ => ∃ v d ps, vs = [v] ∧ Dp K H v d ∧ fewAll d ∧ needD 3 d = .inr ps ∧ ∀ v H', Same H H' → Dp K H' v (toldD (found ps)) → Q v H'
theorem ok_steps2 {P : Program} {w : World} {K : PySem.W.Frag} {mg : Str → Option Value} {base : Heap} (T : Tx K mg) : Fd P w K mg base (L2.CX P w) 5 "clash_steps" ["sheets"] (spSteps2 K) := by
  obtain ⟨fd, F, b, kp⟩ := ok_steps (P := P) (w := w) (base := base) T
  refine ⟨fd, F.imp fun vs H Q E h => ?_, b, kp⟩
  obtain ⟨v, d, ps, rfl, hd, few, e, k⟩ := h
  refine ⟨v, d, rfl, hd, few, (fun k z => by rw [e] at z; cases z), fun qs e2 => ?_⟩
  rw [e] at e2
  cases e2
  exact ⟨fun z H' s => k _ _ s (by rw [z]; exact .non), fun ts z H' t s n d => k _ _ s (by rw [z]; exact d)⟩
section
variable {P : Program} {w : World} {K : PySem.W.Frag} {mg : Str → Option Value} {base : Heap}
theorem law_tail (T : Tx K mg) (TB : LamX.TabB base mg (He.cT K pRef).1 (He.cT K pRef).2) {cdv : Value} {A : Around} {ou : List Env} {s : Shared} {H0 : Hp} {E : XK}
    (hr : Room 8 (A.deeper (envOfC ("law" : Str) (defScope (top 38)) s.heap.objs.size (He.ga K "law") cdv))) (hg : A.guards = some []) :
    ∃ t, PSs (cxOf CX0 P w K mg base NLaw ("law" : Str) (defScope (top 38)) (He.ga K "law") cdv A ou s H0 E).nox tailB t ∧
      ∀ (D : Ends) (Hi H : Hp) (a p S : Addr) (v : V) (i n : Nat) (ps : List Pm) (o : Option (List Stp)) (x6 x7 x8 x9 x10 x11 x12 x13 x14 x15 x16 x17 : Option V),
        LamX.ExtN Hi H → Hi p = none → BoxAt H p → Tb (He.cT K pRef).2 q36 H → Shs K H p S ps → 1 ≤ ps.length → ps.length ≤ 7 → (∀ q ∈ ps, Drawn n q) → n ≤ 3 → found ps = o → Dp K H v (toldD o) →
        (∀ H' y1 y2 y3 y4 y5 y6 y7 y8 y9 y10 y11 y12, LamX.ExtN Hi H' → Tb (He.cT K pRef).2 q36 H' → D.nx [some (.ref a), some v, some (.int (i : Nat)), some (.ref p), some (.int (n : Nat)), some (.ref S), y1, y2, y3, y4, y5, y6, y7, y8, y9, y10, y11, y12] H') →
        t D [some (.ref a), some v, some (.int (i : Nat)), some (.ref p), some (.int (n : Nat)), some (.ref S), x6, x7, x8, x9, x10, x11, x12, x13, x14, x15, x16, x17] H := by
  have hun := room65 hr
  refine ⟨_, (pss_cons (ps_if (pt_cmpR op_ne (pe_callB (show CallR _ _ (rRepr K) from call_reprD hg hun) (by rfl) T.b_repr (by decide +kernel) (pa_cons (pe_fd (E := EF) (ok_steps2 T) (hr.mono (by decide)) rfl T.g_clash_steps (passes_call LamX.takes0 fun _ _ _ _ z => z) (pa_cons
          (pe_callTy (show CallR _ _ (rTup K) from call_tuple_of) (by rfl) T.b_tuple (by decide +kernel) (pa_cons (pe_lc (own := [("_law_left", 9), ("_law_right", 17)]) (tt := tYes) rfl scLaw.nd (pi_sq (pv 5)) (blkOk_by (N := NLaw) (sc := defScope (top 38)) (by decide +kernel))
            (fun _ _ _ _ _ => pg_tupK (n := 2) K rfl (by rfl) (pgs_cons (pg_name (i := 9) scLaw.nd rfl (Or.inl rfl)) (pgs_cons (pg_name (i := 17) scLaw.nd rfl (Or.inl rfl)) pgs_nil))) (fun _ _ _ _ _ => pts_nil)
            (fun _ _ _ _ _ => pe_tup (pa_cons (pe_callTy (show CallR _ _ (rTup K) from call_tuple_of) (by rfl) T.b_tuple (by decide +kernel) (pa_cons (pv 9) pa_nil)) (pa_cons (pe_callTy (show CallR _ _ (rTup K) from call_tuple_of) (by rfl) T.b_tuple (by decide +kernel) (pa_cons (pv 17) pa_nil)) pa_nil)))) pa_nil)) pa_nil)) pa_nil))
          (pe_callB (show CallR _ _ (rRepr K) from call_reprD hg hun) (by rfl) T.b_repr (by decide +kernel) (pa_cons (pv 1) pa_nil)) (nomark _)) (pss_one (ps_ret pe_bl)) pss_nil)
      (pss_cons (ps_for PassesOwn.never rfl (pi_range1 (by rfl) T.b_range (pa_cons pe_int pa_nil)) (pg_name (i := 6) scLaw.nd rfl (Or.inl rfl))
        (pss_cons (ps_set (i := 11) scLaw.nd rfl (Or.inl rfl) (pe_fd (ok_spoilt T) (hr.mono (by decide)) rfl T.g__law_spoilt pass0 (pa_cons (pv 3) (pa_cons (pv 1) (pa_cons (pe_callB call_len_seq (by rfl) T.b_len PySem.boot_len (pa_cons (pv 5) pa_nil)) pa_nil)))))
        (pss_one (ps_if (pt_cmpR op_ne (pe_callB (show CallR _ _ (rRepr K) from call_reprD hg hun) (by rfl) T.b_repr (by decide +kernel) (pa_cons (pe_fd (E := EF) (ok_hold T) (hr.mono (by decide)) rfl T.g_steps_hold (passes_call LamX.takes0 fun _ _ _ _ z => z) (pa_cons (pv 5) (pa_cons (pv 11) pa_nil))) pa_nil))
          (pe_callB (show CallR _ _ (rRepr K) from call_reprD hg hun) (by rfl) T.b_repr (by decide +kernel) (pa_cons (pe_fd (ok_come T) (hr.mono (by decide)) rfl T.g__law_come pass0 (pa_cons (pv 5) (pa_cons (pv 11) pa_nil))) pa_nil)) (nomark _)) (pss_one (ps_ret pe_bl)) pss_nil))))
      (pss_cons (ps_set (i := 8) scLaw.nd rfl (Or.inl rfl) (pe_fd (ok_take T) (hr.mono (by decide)) rfl T.g__law_take pass0 (pa_cons (pv 3) (pa_cons (pe_op op_add (pe_callB call_len_seq (by rfl) T.b_len PySem.boot_len (pa_cons (pv 5) pa_nil)) pe_int) pa_nil))))
      (pss_cons (ps_set (i := 12) scLaw.nd rfl (Or.inl rfl) (pe_fd (ok_pick T) (hr.mono (by decide)) rfl T.g__law_pick pass0 (pa_cons (pv 3) (pa_cons (pe_lst (pa_cons pe_non (pa_cons (pe_tup (pa_cons (pe_tup (pa_cons pe_int pa_nil)) pa_nil))
          (pa_cons (pe_tup (pa_cons (pe_tup (pa_cons pe_int pa_nil)) (pa_cons (pe_tup pa_nil) pa_nil))) (pa_cons (pe_tup (pa_cons (pe_tup pa_nil) (pa_cons (pe_tup (pa_cons pe_int pa_nil)) pa_nil))) (pa_cons (pe_tup (pa_cons (pe_tup pa_nil) (pa_cons (pe_tup (pa_cons pe_bl pa_nil)) pa_nil)))
          (pa_cons (pe_tup (pa_cons (pe_tup pa_nil) (pa_cons pe_str pa_nil))) (pa_cons pe_int pa_nil)))))))) pa_nil))))
      (pss_one (ps_if (PW.pt (pw_or (pt_cmpR (show OpR _ (compareOp .NotEq) (rNeD K) from op_neD (Nat.lt_of_succ_lt hun)) (pe_fd (ok_ref T TB) (hr.mono (by decide)) rfl T.g__law_refused pass0 (pa_cons (pe_op op_cat (pe_op op_cat (pe_slice sl_list (pv 5) po_none (po_some (pv 8))) (pe_lst (pa_cons (pv 12) pa_nil)))
            (pe_slice sl_list (pv 5) (po_some (pv 8)) po_none)) pa_nil)) (pe_lst (pa_cons (pv 8) (pa_cons (pv 8) pa_nil))) (nomark _))
          (pw_or1 (pt_cmpR (show OpR _ (compareOp .NotEq) (rNeD K) from op_neD (Nat.lt_of_succ_lt hun)) (pe_fd (ok_ref T TB) (hr.mono (by decide)) rfl T.g__law_refused pass0 (pa_cons (pe_fd (ok_pick T) (hr.mono (by decide)) rfl T.g__law_pick pass0 (pa_cons (pv 3) (pa_cons (pe_lst (pa_cons pe_non (pa_cons pe_int (pa_cons pe_str pa_nil)))) pa_nil))) pa_nil))
            (pe_op op_rep (pe_lst (pa_cons (pe_op op_sub pe_int pe_int) pa_nil)) pe_int) (nomark _))))) (pss_one (ps_ret pe_bl)) pss_nil)))))), ?_⟩
  intro D Hi H a p S v i n ps o x6 x7 x8 x9 x10 x11 x12 x13 x14 x15 x16 x17 ex np hB hT hSh l1 l7 hdr n3 fo dv k
  obtain ⟨vs, hvs, dvs⟩ := hSh.x
  have dvH := dpAll_mono (same_trans del_le del_le) _ _ dvs
  have lv : vs.length = ps.length := by
    have := dpAll_len dvs
    rwa [List.length_map] at this
  have big : 100000 ≤ sizeLine := by decide
  refine ⟨_, rfl, S, rfl, lc_sqD (fun i => (ps.take i).map tuD) (.inl (SqL.of hvs)) rfl (fun G hG i x H' hx pv => ?_) (fun G H1 hG pv => ?_)⟩
  · obtain ⟨d, hd, dx⟩ := dpAll_get dvH hx
    rw [List.getElem?_map] at hd
    obtain ⟨q, hq, rfl⟩ := Option.map_eq_some_iff.mp hd
    obtain ⟨tq, ta, tb, rfl, hq1, hq2, hq3⟩ := sh_open dx
    have s1 := pv.1
    refine ⟨tq, _, rfl, grow_sqT (grow_same s1) hq1, rfl, _, _, rfl, _, _, rfl, rfl, rfl, ?_⟩
    refine ⟨_, rfl, ta, _, rfl, .inl ⟨s1.seq hq2, fun l1 n1 => ?_⟩⟩
    have s2 := same_new (o := .tup (q.1.map V.int)) n1
    refine ⟨_, rfl, tb, _, rfl, .inl ⟨(same_trans s1 s2).seq hq3, fun l2 n2 => ?_⟩⟩
    have s3 := same_new (o := .tup (q.2.map V.int)) n2
    refine ⟨(by show 2 ≤ sizeLine; decide), fun l3 n3' => ?_⟩
    have s4 := same_new (o := .tup [.ref l1, .ref l2]) n3'
    refine lcd_step (d := tuD q) pv (same_trans s2 (same_trans s3 s4)) hG (by rw [List.length_map, List.length_take]; omega) (firmAll_map tu_firm _) (tu_firm q)
      (.tup (SqT.of upd_same) (.cons (.tup (SqT.of (s4 _ _ (s3 _ _ upd_same))) (ints_dp _)) (.cons (.tup (SqT.of (s4 _ _ upd_same)) (ints_dp _)) .nil))) ?_
    rw [List.take_succ, hq, List.map_append]
    rfl
  have pv2 : LcD K H G (ps.map tuD) H1 := by rwa [lv, List.take_length] at pv
  obtain ⟨s1, gv, hgv, dgv⟩ := pv2
  refine ⟨_, gv, rfl, .inl ⟨SqL.of hgv, fun G2 hG2 => ?_⟩⟩
  have s2 := same_new (o := .tup gv) hG2
  have en := need_of n3 hdr f_tu (d := .tuple (ps.map tuD)) rfl
  refine ⟨.ref G2, .tuple (ps.map tuD), ps, rfl, .tup (SqT.of upd_same) (dpAll_mono s2 _ _ dgv), few_of' n3 l7 hdr f_tu rfl, en, fun v2 H2 v12 d2 => ?_⟩
  rw [fo] at d2
  have s3 := same_trans s1 (same_trans s2 v12)
  refine nil_go ?_
  refine told_repr n3 l7 hdr fo d2 ?_
  refine ⟨_, rfl, nil_go ?_⟩
  refine told_repr n3 l7 hdr fo (dp_mono s3 _ _ dv) ?_
  refine ⟨rfl, _, rfl, ?_⟩
  rw [decide_eq_true rfl]
  refine iteF ?_
  have ex2 := ex.trans (ext_same s3)
  have hB2 := hB.same s3
  have hT2 := hT.ext s3
  have hSh2 := hSh.same s3
  have dv2 := dp_mono s3 _ _ dv
  have hc : ∀ p ∈ ps, can3 p := fun p hp => (hdr p hp).can n3
  have o26 : ∀ ts, o = some ts → ts.length ≤ 26 := fun ts z => (found_some hc (fo.trans z)).few
  have enS := need_of n3 hdr f_sh (d := .list (ps.map shD)) rfl
  have fewS : fewAll (.list (ps.map shD)) := few_of' n3 l7 hdr f_sh rfl
  have nrm := norms hdr
  have wk : ∀ q ∈ ps, can3 (norm q) ∧ q.1.length < 64 ∧ q.2.length < 64 := fun q hq => by
    have d := hdr q hq
    have l1 := d.l1
    have l2 := d.l2
    exact ⟨by rw [d.norm]; exact d.can n3, by omega, by omega⟩
  refine ⟨3, rfl, by decide, by decide, for_range (lo := 0) (n := 3) (fun j σ H' => (∃ y1 y2 y3 y4 y5 y6 y7 y8 y9 y10 y11 y12, σ = [some (.ref a), some v, some (.int (i : Nat)), some (.ref p), some (.int (n : Nat)), some (.ref S), y1, y2, y3, y4, y5, y6, y7, y8, y9, y10, y11, y12]) ∧
      LamX.ExtN Hi H' ∧ BoxAt H' p ∧ Tb (He.cT K pRef).2 q36 H' ∧ Shs K H' p S ps ∧ Dp K H' v (toldD o)) ⟨⟨_, _, _, _, _, _, _, _, _, _, _, _, rfl⟩, ex2, hB2, hT2, hSh2, dv2⟩ (fun j σ H' j3 pv => ?_) (fun σ H' pv => ?_)⟩
  · obtain ⟨⟨y1, y2, y3, y4, y5, y6, y7, y8, y9, y10, y11, y12, rfl⟩, exj, hBj, hTj, hShj, dvj⟩ := pv
    obtain ⟨us, hus, dus⟩ := hShj.x
    have lu : us.length = ps.length := by
      have := dpAll_len dus
      rwa [List.length_map] at this
    refine ⟨_, rfl, _, rfl, _, rfl, S, us, rfl, .inl (SqL.of hus), p, v, o, us.length, rfl, hBj, dvj, o26, by omega, fun H3 sv d b3 hB3 dsv d60 => ?_⟩
    have hSh3 := hShj.but b3
    refine ⟨_, rfl, _, rfl, .ref S, sv, .list (ps.map shD), d, rfl, hSh3.dp, dsv, fewS, (fun ds z => by have := d60 ds z; omega), (fun k z => by rw [enS] at z; cases z), fun qs eqs H4 s4 => ?_⟩
    rw [enS] at eqs
    cases eqs
    refine nil_go (bl_repr ?_)
    refine ⟨_, rfl, _, rfl, .ref S, sv, ps, d, rfl, (hSh3.same s4).dp, dp_mono s4 _ _ dsv, d60, wk, by omega, fun H5 s5 => ?_⟩
    rw [nrm]
    refine nil_go (bl_repr ⟨rfl, _, rfl, ?_⟩)
    rw [decide_eq_true rfl]
    have s45 := same_trans s4 s5
    exact iteF ⟨⟨_, _, _, _, _, _, _, _, _, _, _, _, rfl⟩, (ext_but exj np b3).trans (ext_same s45), hB3.same s45, (tab_but hTj hBj b3).ext s45, hSh3.same s45, dp_mono s45 _ _ (told_but dvj hBj b3)⟩
  · obtain ⟨⟨y1, y2, y3, y4, y5, y6, y7, y8, y9, y10, y11, y12, rfl⟩, exj, hBj, hTj, hShj, dvj⟩ := pv
    obtain ⟨us, hus, dus⟩ := hShj.x
    have lu : us.length = ps.length := by
      have := dpAll_len dus
      rwa [List.length_map] at this
    refine ⟨_, rfl, _, rfl, S, us, rfl, .inl (SqL.of hus), _, _, rfl, rfl, p, (us.length : Int) + 1, rfl, hBj, by omega, by omega, fun H4 at0 a0 a1 hB4 e4 => ?_⟩
    obtain ⟨j, rfl⟩ : ∃ j : Nat, at0 = (j : Int) := ⟨at0.toNat, by omega⟩
    have b4 : But p H' H4 := But.eq e4
    have hSh4 := hShj.but b4
    have ex4 := ext_but exj np b4
    have hT4 := tab_but hTj hBj b4
    refine ⟨_, rfl, (by show 1 ≤ sizeLine; decide), fun a1 n1 => ⟨(by show 1 ≤ sizeLine; decide), fun a2 n2 => ⟨(by show 1 ≤ sizeLine; decide), fun a3 n3' => ⟨(by show 0 ≤ sizeLine; decide), fun a4 n4 => ⟨(by show 2 ≤ sizeLine; decide), fun a5 n5 => ⟨(by show 0 ≤ sizeLine; decide), fun a6 n6 => ⟨(by show 1 ≤ sizeLine; decide), fun a7 n7 =>
      ⟨(by show 2 ≤ sizeLine; decide), fun a8 n8 => ⟨(by show 0 ≤ sizeLine; decide), fun a9 n9 => ⟨(by show 1 ≤ sizeLine; decide), fun a10 n10 => ⟨(by show 2 ≤ sizeLine; decide), fun a11 n11 => ⟨(by show 0 ≤ sizeLine; decide), fun a12 n12 => ⟨(by show 2 ≤ sizeLine; decide), fun a13 n13 => ⟨(by show 7 ≤ sizeLine; decide), fun a14 n14 => ?_⟩⟩⟩⟩⟩⟩⟩⟩⟩⟩⟩⟩⟩⟩
    have s1 := same_new (o := .tup [.int 1]) n1
    have s2 := same_new (o := .tup [.ref a1]) n2
    have s3' := same_new (o := .tup [.int 0]) n3'
    have s4 := same_new (o := .tup []) n4
    have s5 := same_new (o := .tup [.ref a3, .ref a4]) n5
    have s6 := same_new (o := .tup []) n6
    have s7 := same_new (o := .tup [.int 4]) n7
    have s8 := same_new (o := .tup [.ref a6, .ref a7]) n8
    have s9 := same_new (o := .tup []) n9
    have s10 := same_new (o := .tup [.bl true]) n10
    have s11 := same_new (o := .tup [.ref a9, .ref a10]) n11
    have s12 := same_new (o := .tup []) n12
    have s13 := same_new (o := .tup [.ref a12, .str ("1" : Str)]) n13
    have s14 := same_new (o := .lst [.non, .ref a2, .ref a5, .ref a8, .ref a11, .ref a13, .int 5]) n14
    have u13 := same_trans s13 s14
    have u12 := same_trans s12 u13
    have u11 := same_trans s11 u12
    have u10 := same_trans s10 u11
    have u9 := same_trans s9 u10
    have u8 := same_trans s8 u9
    have u7 := same_trans s7 u8
    have u6 := same_trans s6 u7
    have u5 := same_trans s5 u6
    have u4 := same_trans s4 u5
    have u3 := same_trans s3' u4
    have u2 := same_trans s2 u3
    have u1 := same_trans s1 u2
    have c1 := hB4.same s1
    have c2 := c1.same s2
    have c3 := c2.same s3'
    have c4 := c3.same s4
    have c5 := c4.same s5
    have c6 := c5.same s6
    have c7 := c6.same s7
    have c8 := c7.same s8
    have c9 := c8.same s9
    have c10 := c9.same s10
    have c11 := c10.same s11
    have c12 := c11.same s12
    have c13 := c12.same s13
    refine ⟨p, a14, _, rfl, hB4.same u1, (c13.ne n14).symm, SqL.of upd_same, (by show 0 < 7; decide), (by show 7 ≤ 1000; decide), fun H5 wv hv hB5 e5 => ?_⟩
    have f1 := (e5 _ (hB4.ne n1)).trans (u2 _ _ upd_same)
    have f2 := (e5 _ (c1.ne n2)).trans (u3 _ _ upd_same)
    have f3 := (e5 _ (c2.ne n3')).trans (u4 _ _ upd_same)
    have f4 := (e5 _ (c3.ne n4)).trans (u5 _ _ upd_same)
    have f5 := (e5 _ (c4.ne n5)).trans (u6 _ _ upd_same)
    have f6 := (e5 _ (c5.ne n6)).trans (u7 _ _ upd_same)
    have f7 := (e5 _ (c6.ne n7)).trans (u8 _ _ upd_same)
    have f8 := (e5 _ (c7.ne n8)).trans (u9 _ _ upd_same)
    have f9 := (e5 _ (c8.ne n9)).trans (u10 _ _ upd_same)
    have f10 := (e5 _ (c9.ne n10)).trans (u11 _ _ upd_same)
    have f11 := (e5 _ (c10.ne n11)).trans (u12 _ _ upd_same)
    have f12 := (e5 _ (c11.ne n12)).trans (u13 _ _ upd_same)
    have f13 := (e5 _ (c12.ne n13)).trans (s14 _ _ upd_same)
    obtain ⟨wd, dw, bad, fw⟩ : ∃ wd, Dp K H5 wv wd ∧ premD 3 wd = none ∧ fewD wd := by
      simp only [List.mem_cons, List.mem_nil_iff, or_false] at hv
      rcases hv with rfl | rfl | rfl | rfl | rfl | rfl | rfl
      · exact ⟨.none, .non, rfl, fun ds z => by cases z⟩
      · exact ⟨.tuple [.tuple [.int 1]], .tup (SqT.of f2) (.cons (.tup (SqT.of f1) (.cons (.int _) .nil)) .nil), rfl, by intro ds z; cases z; simp [itemsD]⟩
      · exact ⟨.tuple [.tuple [.int 0], .tuple []], .tup (SqT.of f5) (.cons (.tup (SqT.of f3) (.cons (.int _) .nil)) (.cons (.tup (SqT.of f4) .nil) .nil)), rfl, by intro ds z; cases z; simp [itemsD]⟩
      · exact ⟨.tuple [.tuple [], .tuple [.int 4]], .tup (SqT.of f8) (.cons (.tup (SqT.of f6) .nil) (.cons (.tup (SqT.of f7) (.cons (.int _) .nil)) .nil)), rfl, by intro ds z; cases z; simp [itemsD]⟩
      · exact ⟨.tuple [.tuple [], .tuple [.bool true]], .tup (SqT.of f11) (.cons (.tup (SqT.of f9) .nil) (.cons (.tup (SqT.of f10) (.cons (.bl _) .nil)) .nil)), rfl, by intro ds z; cases z; simp [itemsD]⟩
      · exact ⟨.tuple [.tuple [], .str ("1" : Str)], .tup (SqT.of f13) (.cons (.tup (SqT.of f12) .nil) (.cons (.str _) .nil)), rfl, by intro ds z; cases z; simp [itemsD]⟩
      · exact ⟨.int 5, .int _, rfl, fun ds z => by cases z⟩
    have b5 : But p H4 H5 := (But.of u1).trans (But.eq e5)
    have hSh5 := hSh4.but b5
    have ex5 := ext_but ex4 np b5
    have hT5 := tab_but hT4 hB4 b5
    obtain ⟨vs5, hv5, dv5⟩ := hSh5.x
    have dvs5 := dpAll_mono (same_trans del_le del_le) _ _ dv5
    have l5 : vs5.length = ps.length := by
      have := dpAll_len dv5
      rwa [List.length_map] at this
    have j5 : j ≤ vs5.length := by omega
    refine ⟨_, rfl, _, rfl, _, rfl, S, vs5, rfl, SqL.of hv5, fun q1 m1 => ?_⟩
    have r1 := same_new (o := .lst (cutV vs5 none (some (j : Int)))) m1
    refine ⟨_, rfl, (by show 1 ≤ sizeLine; decide), fun q2 m2 => ?_⟩
    have r2 := same_new (o := .lst [wv]) m2
    refine ⟨q1, q2, _, _, rfl, rfl, r2 _ _ upd_same, upd_same, by rw [cut_to j5, List.length_take]; show _ + 1 ≤ _; omega, fun q3 m3 => ?_⟩
    have r3 := same_new (o := .lst (cutV vs5 none (some (j : Int)) ++ [wv])) m3
    have r13 := same_trans r1 (same_trans r2 r3)
    refine ⟨_, rfl, _, rfl, _, rfl, S, vs5, rfl, SqL.of (r13 _ _ hv5), fun q4 m4 => ?_⟩
    have r4 := same_new (o := .lst (cutV vs5 (some (j : Int)) none)) m4
    refine ⟨q3, q4, _, _, rfl, rfl, r4 _ _ upd_same, upd_same, by rw [cut_to j5, cut_from j5, List.length_append, List.length_take, List.length_drop]; show _ + 1 + _ ≤ _; omega, fun q5 m5 => ?_⟩
    have r5 := same_new (o := .lst (cutV vs5 none (some (j : Int)) ++ [wv] ++ cutV vs5 (some (j : Int)) none)) m5
    have r15 := same_trans r13 (same_trans r4 r5)
    have hcut : cutV vs5 none (some (j : Int)) ++ [wv] ++ cutV vs5 (some (j : Int)) none = vs5.take j ++ (wv :: vs5.drop j) := by
      rw [cut_to j5, cut_from j5, List.append_assoc]
      rfl
    have needW : needD 3 (.list ((ps.take j).map shD ++ wd :: (ps.drop j).map shD)) = .inl (j : Int) := by
      have g := go_bad (f := shD) bad ((ps.drop j).map shD) (ps.take j) 0 fun q hq => by
        obtain ⟨a, b, e1, e2, e3⟩ := f_sh q
        exact prem_ok n3 (hdr q (List.mem_of_mem_take hq)) e1 e2 e3
      have e : needD 3 (.list ((ps.take j).map shD ++ wd :: (ps.drop j).map shD)) = needGo 3 0 ((ps.take j).map shD ++ wd :: (ps.drop j).map shD) := rfl
      rw [e, g, List.length_take, Nat.min_eq_left (by omega), Nat.zero_add]
    have fewW : fewAll (.list ((ps.take j).map shD ++ wd :: (ps.drop j).map shD)) := by
      refine few_of rfl (by simp only [List.length_append, List.length_cons, List.length_map, List.length_take, List.length_drop]; omega) fun x hx => ?_
      have one : ∀ q ∈ ps, fewD (shD q) := fun q hq => by
        obtain ⟨a, b, e1, e2, e3⟩ := f_sh q
        exact few_side n3 (hdr q hq) e1 e2 e3
      rcases List.mem_append.mp hx with hx | hx
      · obtain ⟨q, hq, rfl⟩ := List.mem_map.mp hx
        exact one q (List.mem_of_mem_take hq)
      · rcases List.mem_cons.mp hx with rfl | hx
        · exact fw
        · obtain ⟨q, hq, rfl⟩ := List.mem_map.mp hx
          exact one q (List.mem_of_mem_drop hq)
    have dW : DpAll K H5 (vs5.take j ++ (wv :: vs5.drop j)) ((ps.take j).map shD ++ wd :: (ps.drop j).map shD) := by
      rw [List.map_take, List.map_drop]
      exact dpAll_app (dpAll_take j dvs5) (.cons dw (dpAll_drop j dvs5))
    refine ⟨.ref q5, _, (j : Int), rfl, .lst (SqL.of (by rw [upd_same, hcut])) (dpAll_mono r15 _ _ dW), fewW, needW, hT5.ext r15, fun H6 l6 ex6 hT6 hl6 => ?_⟩
    refine ⟨_, rfl, _, rfl, (by show 2 ≤ sizeLine; decide), fun m6 hm6 => ?_⟩
    have r6 := same_new (o := .lst [.int (j : Int), .int (j : Int)]) hm6
    refine ⟨.list [.int (j : Int), .int (j : Int)], .list [.int (j : Int), .int (j : Int)], .lst (SqL.of (r6 _ _ hl6)) (.cons (.int _) (.cons (.int _) .nil)), .lst (SqL.of upd_same) (.cons (.int _) (.cons (.int _) .nil)), ints_shaped [(j : Int), (j : Int)], ints_shaped [(j : Int), (j : Int)], _, rfl, ?_⟩
    rw [two_same]
    have hT6' := hT6.ext r6
    have ex56 := ((ext_same r15).trans ex6).trans (ext_same r6)
    have hB6 := hB5.ext ex56
    have exA := ex5.trans ex56
    refine iteF ⟨_, rfl, (by show 3 ≤ sizeLine; decide), fun l7 hl7 => ?_⟩
    have r7 := same_new (o := .lst [.non, .int 3, .str ("|" : Str)]) hl7
    refine ⟨p, l7, _, rfl, hB6.same r7, (hB6.ne hl7).symm, SqL.of upd_same, (by show 0 < 3; decide), (by show 3 ≤ 1000; decide), fun H8 pv hpv hB8 e8 => ?_⟩
    obtain ⟨pd, dp, ip⟩ : ∃ pd, Dp K H8 pv pd ∧ itemsD pd = none := by
      simp only [List.mem_cons, List.mem_nil_iff, or_false] at hpv
      rcases hpv with rfl | rfl | rfl
      · exact ⟨.none, .non, rfl⟩
      · exact ⟨.int 3, .int _, rfl⟩
      · exact ⟨.str _, .str _, rfl⟩
    have b8 := (But.of r7).trans (But.eq e8)
    refine ⟨pv, pd, -1, rfl, dp, (fun ds z => by rw [ip] at z; cases z), (by unfold needD; rw [ip]), tab_but hT6' hB6 b8, fun H9 l9 ex9 hT9 hl9 => ?_⟩
    refine ⟨_, _, rfl, rfl, (by show 1 ≤ sizeLine; decide), fun m1 hm1 => ?_⟩
    have r9 := same_new (o := .lst [.int (0 - 1)]) hm1
    refine ⟨m1, 2, _, rfl, rfl, upd_same, by decide, by decide, (by show 1 * 2 ≤ sizeLine; decide), fun m2 hm2 => ?_⟩
    have r10 := same_new (o := .lst [.int (0 - 1), .int (0 - 1)]) hm2
    have r910 := same_trans r9 r10
    refine ⟨.list [.int (-1), .int (-1)], .list [.int (-1), .int (-1)], .lst (SqL.of (r910 _ _ hl9)) (.cons (.int _) (.cons (.int _) .nil)), .lst (SqL.of upd_same) (.cons (.int _) (.cons (.int _) .nil)), ints_shaped [-1, -1], ints_shaped [-1, -1], _, rfl, ?_⟩
    rw [two_same]
    exact iteF (k _ _ _ _ _ _ _ _ _ _ _ _ _ ((ext_but exA np b8).trans (ex9.trans (ext_same r910))) (hT9.ext r910))
end
end K07

set_option Elab.async false
set_option linter.all false
set_option pp.maxSteps 800
set_option pp.deepTerms false
set_option maxRecDepth 100000
set_option maxHeartbeats 8000000
namespace K07
open PySem PySem.Spec PyProof.Rows L2 Say
theorem rows_eqv (m : List (List Int)) : PyData.eqv (.list (m.map rowD)) (.list []) = decide (m = []) := by
  cases m <;> rfl
theorem stps_eqv (m : List Stp) : PyData.eqv (.tuple (m.map stpD)) (.tuple []) = decide (m = []) := by
  cases m <;> rfl
theorem rows_shaped (m : List (List Int)) : SeqAt.shaped (.list (m.map rowD)) = true := by
  unfold SeqAt.shaped
  have h1 : PyData.canLay0 (.list (m.map rowD)) = true := by
    show PyData.canLayAll0 (m.map rowD) = true
    induction m with
    | nil => rfl
    | cons r m ih =>
      show (PyData.canLay0 (rowD r) && PyData.canLayAll0 (m.map rowD)) = true
      rw [ih]
      have : PyData.canLay0 (rowD r) = true := lay_ints r
      rw [this]
      rfl
  have h2 : PyData.depthAll (m.map rowD) ≤ 1 := by
    clear h1
    induction m with
    | nil => exact Nat.zero_le _
    | cons r m ih =>
      show max (PyData.depth (rowD r)) (PyData.depthAll (m.map rowD)) ≤ 1
      have : PyData.depth (rowD r) = PyData.depthAll (r.map PyData.int) + 1 := rfl
      rw [this, dep_ints]
      omega
  have h3 : PyData.depth (.list (m.map rowD)) ≤ 64 := by
    show PyData.depthAll (m.map rowD) + 1 ≤ 64
    omega
  rw [h1, decide_eq_true h3]
  rfl
theorem stps_shaped' (m : List Stp) : SeqAt.shaped (.tuple (m.map stpD)) = true := by
  unfold SeqAt.shaped
  have h1 : PyData.canLay0 (.tuple (m.map stpD)) = true := by
    show PyData.canLayAll0 (m.map stpD) = true
    induction m with
    | nil => rfl
    | cons r m ih =>
      show (PyData.canLay0 (stpD r) && PyData.canLayAll0 (m.map stpD)) = true
      rw [ih]
      rfl
  have h2 : PyData.depthAll (m.map stpD) ≤ 1 := by
    clear h1
    induction m with
    | nil => exact Nat.zero_le _
    | cons r m ih =>
      show max (PyData.depth (stpD r)) (PyData.depthAll (m.map stpD)) ≤ 1
      have : PyData.depth (stpD r) = 1 := rfl
      omega
  have h3 : PyData.depth (.tuple (m.map stpD)) ≤ 64 := by
    show PyData.depthAll (m.map stpD) + 1 ≤ 64
    omega
  rw [h1, decide_eq_true h3]
  rfl
/-- the anchor's three sheets as data -/
def ancD : PyData := .list [.tuple [.tuple [], .tuple [.int 1]], .tuple [.tuple [], .tuple [.int 2]], .tuple [.tuple [.int 1, .int 2], .tuple []]]
theorem anc_need : needD 3 ancD = .inr [([], [1]), ([], [2]), ([1, 2], [])] := by rfl
theorem few_small {d : PyData} (n : Nat) (h : match itemsD d with | none => True | some ds => ds.length ≤ 200 ∧ ∀ x ∈ ds, match itemsD x with | none => True | some es => ∀ s ∈ es, match itemsD s with | none => True | some fs => fs.length < 64) : fewAll d := by
  intro ds e
  rw [e] at h
  obtain ⟨h1, h2⟩ := h
  refine ⟨fun x hx es e2 s hs fs e3 => ?_, h1⟩
  have h3 := h2 x hx
  rw [e2] at h3
  have h4 := h3 s hs
  rw [e3] at h4
  exact h4
theorem anc_few : fewAll ancD := few_small 0 ⟨by decide, by simp [itemsD]⟩
section
variable {P : Program} {w : World} {K : PySem.W.Frag} {mg : Str → Option Value} {base : Heap}
theorem law_body (T : Tx K mg) (TB : LamX.TabB base mg (He.cT K pRef).1 (He.cT K pRef).2) {cdv : Value} {A : Around} {ou : List Env} {s : Shared} {H : Hp} {a : Addr} {ns : List Int} {Q : VK} {E : XK}
    (hr : Room 8 (A.deeper (envOfC ("law" : Str) (defScope (top 38)) s.heap.objs.size (He.ga K "law") cdv))) (hg : A.guards = some []) (hS : SqL K H a (ns.map V.int)) (hT : Tb (He.cT K pRef).2 q36 H) (q : ∀ H', Q (.bl true) H') :
    ∃ t, PSs (cxOf CX0 P w K mg base NLaw ("law" : Str) (defScope (top 38)) (He.ga K "law") cdv A ou s H E) (defBody (top 38)) t ∧ t { nx := fun _ H' => Q .non H', rt := Q } (start NLaw [.ref a]) H := by
  have hun := room65 hr
  obtain ⟨tT, htt, rtt⟩ := law_tail (cdv := cdv) (ou := ou) (s := s) (H0 := H) (E := E) T TB hr hg
  refine ⟨_, PSs.nox (pss_cons (ps_set (i := 1) scLaw.nd rfl (Or.inl rfl) (pe_stepsK T (hr.mono (by decide)) rfl (pk_cons (pe_lst (pa_cons (pe_tup (pa_cons (pe_tup pa_nil) (pa_cons (pe_tup (pa_cons pe_int pa_nil)) pa_nil)))
        (pa_cons (pe_tup (pa_cons (pe_tup pa_nil) (pa_cons (pe_tup (pa_cons pe_int pa_nil)) pa_nil))) (pa_cons (pe_tup (pa_cons (pe_tup (pa_cons pe_int (pa_cons pe_int pa_nil))) (pa_cons (pe_tup pa_nil) pa_nil))) pa_nil)))) pk_nil)))
    (pss_cons (ps_if (PW.pt (pw_or (pt_cmpR op_isN (pv 1) pe_non (nomark _)) (pw_or (pt_cmpR op_ne (pe_callB call_len_seq (by rfl) T.b_len PySem.boot_len (pa_cons (pv 1) pa_nil)) pe_int (nomark _))
        (pw_or (pt_cmpR (show OpR _ (compareOp .NotEq) (rNeD K) from op_neD (Nat.lt_of_succ_lt hun)) (pe_fd (E := EF) (ok_steps T) (hr.mono (by decide)) rfl T.g_clash_steps (passes_call LamX.takes0 fun _ _ _ _ z => z) (pa_cons (pe_lst (pa_cons (pe_tup (pa_cons (pe_tup pa_nil) (pa_cons (pe_tup pa_nil) pa_nil))) pa_nil)) pa_nil)) (pe_tup pa_nil) (nomark _))
        (pw_or1 (pt_cmpR op_notN (pe_fd (E := EF) (ok_steps T) (hr.mono (by decide)) rfl T.g_clash_steps (passes_call LamX.takes0 fun _ _ _ _ z => z) (pa_cons (pe_lst pa_nil) pa_nil)) pe_non (nomark _))))))) (pss_one (ps_ret pe_bl)) pss_nil)
    (pss_cons (ps_for PassesOwn.never rfl (pi_range1 (by rfl) T.b_range (pa_cons pe_int pa_nil)) (pg_name (i := 2) scLaw.nd rfl (Or.inl rfl))
      (pss_cons (ps_set (i := 3) scLaw.nd rfl (Or.inr rfl) (pe_fd (ok_box T) (hr.mono (by decide)) rfl T.g__law_box pass0 (pa_cons (pv 0) (pa_cons (pv 2) pa_nil))))
      (pss_cons (ps_set (i := 4) scLaw.nd rfl (Or.inl rfl) (pe_op op_add pe_int (pe_fd (ok_take T) (hr.mono (by decide)) rfl T.g__law_take pass0 (pa_cons (pv 3) (pa_cons pe_int pa_nil)))))
      (pss_cons (ps_set (i := 5) scLaw.nd rfl (Or.inr rfl) (pe_lst pa_nil))
      (pss_cons (ps_for PassesOwn.never rfl (pi_range1 (by rfl) T.b_range (pa_cons (pe_op op_add pe_int (pe_fd (ok_take T) (hr.mono (by decide)) rfl T.g__law_take pass0 (pa_cons (pv 3) (pa_cons pe_int pa_nil)))) pa_nil)) (pg_name (i := 6) scLaw.nd rfl (Or.inl rfl))
        (pss_cons (ps_setLc (i := 7) (own := [("_law_place", 13)]) (tt := tYes) rfl scLaw.nd rfl rfl (sw_true rfl rfl rfl (by decide +kernel)) (pi_range1 (by rfl) T.b_range (pa_cons (pv 4) pa_nil)) (blkOk_by (N := NLaw) (sc := defScope (top 38)) (by decide +kernel))
          (fun _ _ _ _ _ => pg_name (i := 13) scLaw.nd rfl (Or.inl rfl)) (fun _ _ _ _ _ => pts_nil)
          (fun _ _ _ _ _ => pe_fd (ok_pick T) (hr.mono (by decide)) rfl T.g__law_pick pass0 (pa_cons (pv 3) (pa_cons (pe_lst (pa_cons pe_int (pa_cons pe_int (pa_cons pe_int (pa_cons pe_int (pa_cons pe_int pa_nil)))))) pa_nil))))
        (pss_cons (ps_setLc (i := 9) (own := [("_law_at", 8), ("_law_mark", 14)]) rfl scLaw.nd rfl rfl (sw_true rfl rfl rfl (by decide +kernel)) (pi_enumSq (by rfl) T.b_enumerate (pa_cons (pv 7) pa_nil)) (blkOk_by (N := NLaw) (sc := defScope (top 38)) (by decide +kernel))
          (fun _ _ _ _ _ => pg_tupK (n := 2) K rfl (by rfl) (pgs_cons (pg_name (i := 8) scLaw.nd rfl (Or.inl rfl)) (pgs_cons (pg_name (i := 14) scLaw.nd rfl (Or.inl rfl)) pgs_nil)))
          (fun _ _ _ _ _ => pts_one (pt_cmpR op_eq (pv 14) pe_int (nomark _))) (fun _ _ _ _ _ => pe_op op_add (pv 8) pe_int))
        (pss_one (ps_expr (pe_bm PySem.F.plainAttrs_list PySem.F.slot_list_append PySem.F.type_list_append mt_append (pv 5) (pa_cons (pe_tup (pa_cons (pv 9) (pa_cons
          (pe_lc (own := [("_law_at", 8), ("_law_mark", 14)]) rfl scLaw.nd (pi_enumSq (by rfl) T.b_enumerate (pa_cons (pv 7) pa_nil)) (blkOk_by (N := NLaw) (sc := defScope (top 38)) (by decide +kernel))
          (fun _ _ _ _ _ => pg_tupK (n := 2) K rfl (by rfl) (pgs_cons (pg_name (i := 8) scLaw.nd rfl (Or.inl rfl)) (pgs_cons (pg_name (i := 14) scLaw.nd rfl (Or.inl rfl)) pgs_nil)))
          (fun _ _ _ _ _ => pts_one (pt_cmpR op_eq (pv 14) pe_int (nomark _))) (fun _ _ _ _ _ => pe_op op_add (pv 8) pe_int)) pa_nil))) pa_nil)))))))
      (pss_cons (ps_setLc (i := 10) (own := [("_law_row", 15)]) rfl scLaw.nd rfl rfl (sw_true rfl rfl rfl (by decide +kernel)) (pi_sq (pe_fd (ok_rows T) (hr.mono (by decide)) rfl T.g__law_rows pass0 (pa_cons (pv 4) pa_nil))) (blkOk_by (N := NLaw) (sc := defScope (top 38)) (by decide +kernel))
          (fun _ _ _ _ _ => pg_name (i := 15) scLaw.nd rfl (Or.inl rfl)) (fun _ _ _ _ _ => pts_one (pt_val (pe_fd (ok_awake T) (hr.mono (by decide)) rfl T.g__law_awake pass0 (pa_cons (pv 5) (pa_cons (pv 15) pa_nil))))) (fun _ _ _ _ _ => pv 15))
      (pss_cons (ps_set (i := 1) scLaw.nd rfl (Or.inl rfl) (pe_fd (E := EF) (ok_steps2 T) (hr.mono (by decide)) rfl T.g_clash_steps (passes_call LamX.takes0 fun _ _ _ _ z => z) (pa_cons
          (pe_lc (own := [("_law_sheet", 16)]) (g := gName 16) (tt := tYes) rfl scLaw.nd (pi_sq (pv 5)) (blkOk_by (N := NLaw) (sc := defScope (top 38)) (by decide +kernel)) (fun _ _ _ _ _ => pg_name (i := 16) scLaw.nd rfl (Or.inl rfl)) (fun _ _ _ _ _ => pts_nil)
            (fun _ _ _ _ _ => pe_callTy (show CallR _ _ (rLstO K) from call_list_of) (by rfl) T.b_list (by decide +kernel) (pa_cons (pv 16) pa_nil))) pa_nil)))
      (pss_cons (ps_if (pt_cmpR op_ne (pe_cmpR op_isN (pv 1) pe_non (nomark _)) (pe_cmpR (show OpR _ (compareOp .NotEq) (rNeD K) from op_neD (Nat.lt_of_succ_lt hun)) (pv 10) (pe_lst pa_nil) (nomark _)) (nomark _)) (pss_one (ps_ret pe_bl)) pss_nil)
      (pss_cons (ps_if (pt_cmpR op_notN (pv 1) pe_non (nomark _))
        (pss_cons (ps_if (PW.pt (pw_or (pt_not (pt_val (pe_fd (ok_come T) (hr.mono (by decide)) rfl T.g__law_come pass0 (pa_cons (pv 5) (pa_cons (pv 1) pa_nil)))))
            (pw_or1 (PW.pt (pw_and (pt_cmpR (show OpR _ (compareOp .NotEq) (rNeD K) from op_neD (Nat.lt_of_succ_lt hun)) (pv 1) (pe_tup pa_nil) (nomark _)) (pw_and1 (pt_not (pt_val (pe_fd (ok_ofuse T) (hr.mono (by decide)) rfl T.g__law_of_use pass0
              (pa_cons (pe_callB call_len_seq (by rfl) T.b_len PySem.boot_len (pa_cons (pv 5) pa_nil)) (pa_cons (pv 1) pa_nil))))))))))) (pss_one (ps_ret pe_bl)) pss_nil)
        (pss_cons (ps_if (PW.pt (pw_and (pt_cmpR (show OpR _ (compareOp .NotEq) (rNeD K) from op_neD (Nat.lt_of_succ_lt hun)) (pv 1) (pe_tup pa_nil) (nomark _)) (pw_and1 (pt_cmpR (show OpR _ (compareOp .NotEq) (rNeD K) from op_neD (Nat.lt_of_succ_lt hun))
            (pe_ix ix_sq (pe_fd (ok_walked T) (hr.mono (by decide)) rfl T.g__law_walked pass0 (pa_cons (pv 5) (pa_cons (pv 1) pa_nil))) (pe_op op_sub pe_int pe_int) (fun _ _ => rfl)) (pe_tup (pa_cons (pe_tup pa_nil) (pa_cons (pe_tup pa_nil) pa_nil))) (nomark _))))) (pss_one (ps_ret pe_bl)) pss_nil)
        (pss_one (ps_if (PW.pt (pw_or (pt_cmpR op_notBl (pe_holdK T (hr.mono (by decide)) rfl (pk_cons (pv 1) (pk_cons (pe_callTy (show CallR _ _ (rTup K) from call_tuple_of) (by rfl) T.b_tuple (by decide +kernel) (pa_cons (pv 5) pa_nil)) pk_nil))) pe_bl (nomark _))
            (pw_or1 (pt_cmpR op_gt (pe_callB call_len_seq (by rfl) T.b_len PySem.boot_len (pa_cons (pv 1) pa_nil)) pe_int (nomark _))))) (pss_one (ps_ret pe_bl)) pss_nil)))) pss_nil)
      htt)))))))))
    (pss_one (ps_ret pe_bl))))), ?_⟩
  have big : 100000 ≤ sizeLine := by decide
  refine ⟨(by show 0 ≤ sizeLine; decide), fun t1 h1 => ⟨(by show 1 ≤ sizeLine; decide), fun t2 h2 => ⟨(by show 2 ≤ sizeLine; decide), fun t3 h3 => ⟨(by show 0 ≤ sizeLine; decide), fun t4 h4 => ⟨(by show 1 ≤ sizeLine; decide), fun t5 h5 => ⟨(by show 2 ≤ sizeLine; decide), fun t6 h6 =>
    ⟨(by show 2 ≤ sizeLine; decide), fun t7 h7 => ⟨(by show 0 ≤ sizeLine; decide), fun t8 h8 => ⟨(by show 2 ≤ sizeLine; decide), fun t9 h9 => ⟨(by show 3 ≤ sizeLine; decide), fun t10 h10 => ?_⟩⟩⟩⟩⟩⟩⟩⟩⟩⟩
  have s1 := same_new (o := .tup []) h1
  have s2 := same_new (o := .tup [.int 1]) h2
  have s3 := same_new (o := .tup [.ref t1, .ref t2]) h3
  have s4 := same_new (o := .tup []) h4
  have s5 := same_new (o := .tup [.int 2]) h5
  have s6 := same_new (o := .tup [.ref t4, .ref t5]) h6
  have s7 := same_new (o := .tup [.int 1, .int 2]) h7
  have s8 := same_new (o := .tup []) h8
  have s9 := same_new (o := .tup [.ref t7, .ref t8]) h9
  have s10 := same_new (o := .lst [.ref t3, .ref t6, .ref t9]) h10
  have u9 := same_trans s9 s10
  have u8 := same_trans s8 u9
  have u7 := same_trans s7 u8
  have u6 := same_trans s6 u7
  have u5 := same_trans s5 u6
  have u4 := same_trans s4 u5
  have u3 := same_trans s3 u4
  have u2 := same_trans s2 u3
  have u1 := same_trans s1 u2
  refine ⟨.ref t10, ancD, rfl, .lst (SqL.of upd_same) (.cons (.tup (SqT.of (u4 _ _ upd_same)) (.cons (.tup (SqT.of (u2 _ _ upd_same)) .nil) (.cons (.tup (SqT.of (u3 _ _ upd_same)) (.cons (.int _) .nil)) .nil)))
    (.cons (.tup (SqT.of (u7 _ _ upd_same)) (.cons (.tup (SqT.of (u5 _ _ upd_same)) .nil) (.cons (.tup (SqT.of (u6 _ _ upd_same)) (.cons (.int _) .nil)) .nil)))
    (.cons (.tup (SqT.of (s10 _ _ upd_same)) (.cons (.tup (SqT.of (u8 _ _ upd_same)) (.cons (.int _) (.cons (.int _) .nil))) (.cons (.tup (SqT.of (u9 _ _ upd_same)) .nil) .nil))) .nil))), anc_few, (fun k e => by rw [anc_need] at e; cases e), fun ps eps => ?_⟩
  rw [anc_need] at eps
  cases eps
  have a3 := anchor3
  refine ⟨(fun z => by rw [z] at a3; cases a3), fun ts ets H1 T v1 nT dT => ?_⟩
  rw [ets] at a3
  have l2 : ts.length = 2 := Option.some.inj a3
  have v01 := same_trans u1 v1
  obtain ⟨tv, hs1, da1⟩ : ∃ tv, SqT K H1 T tv ∧ DpAll K H1 tv (ts.map stpD) := by
    cases dT with
    | tup hs ha => exact ⟨_, hs, ha⟩
  have tl : tv.length = 2 := by
    have := dpAll_len da1
    rw [List.length_map] at this
    omega
  refine ⟨_, rfl, rfl, _, rfl, iteF ⟨_, rfl, T, tv, rfl, .inr hs1, rfl, _, rfl, ?_⟩⟩
  rw [tl]
  refine iteF ⟨(by show 0 ≤ sizeLine; decide), fun t1 h1 => ⟨(by show 0 ≤ sizeLine; decide), fun t2 h2 => ⟨(by show 2 ≤ sizeLine; decide), fun t3 h3 => ⟨(by show 1 ≤ sizeLine; decide), fun t4 h4 => ?_⟩⟩⟩⟩
  have s1 := same_new (o := .tup []) h1
  have s2 := same_new (o := .tup []) h2
  have s3 := same_new (o := .tup [.ref t1, .ref t2]) h3
  have s4 := same_new (o := .lst [.ref t3]) h4
  have u3 := same_trans s3 s4
  have u2 := same_trans s2 u3
  have u1 := same_trans s1 u2
  refine ⟨.ref t4, .list [.tuple [.tuple [], .tuple []]], rfl, .lst (SqL.of upd_same) (.cons (.tup (SqT.of (s4 _ _ upd_same)) (.cons (.tup (SqT.of (u2 _ _ upd_same)) .nil) (.cons (.tup (SqT.of (u3 _ _ upd_same)) .nil) .nil))) .nil), few_small 0 ⟨by decide, by simp [itemsD]⟩, (fun k e => by cases e), fun ps eps => ?_⟩
  have eps2 : ps = [([], [])] := (Sum.inr.inj eps).symm
  subst eps2
  refine ⟨(fun z => by rw [anchor0] at z; cases z), fun ts ets H2 T2 v2 nT2 dT2 => ?_⟩
  rw [anchor0] at ets
  cases ets
  have v02 := same_trans v01 (same_trans u1 v2)
  refine ⟨(by show 0 ≤ sizeLine; decide), fun t5 h5 => ?_⟩
  have s5 := same_new (o := .tup []) h5
  refine ⟨_, .tuple [], dp_mono s5 _ _ dT2, .tup (SqT.of upd_same) .nil, rfl, rfl, _, rfl, iteF ⟨(by show 0 ≤ sizeLine; decide), fun t6 h6 => ?_⟩⟩
  have s6 := same_new (o := .lst []) h6
  refine ⟨.ref t6, .list [], rfl, .lst (SqL.of upd_same) .nil, few_small 0 ⟨by decide, by simp⟩, (fun k e => by cases e), fun ps eps => ?_⟩
  have eps2 : ps = [] := (Sum.inr.inj eps).symm
  subst eps2
  refine ⟨fun _ H3 v3 => ⟨rfl, _, rfl, iteF ?_⟩, fun ts z => by rw [anchorN] at z; cases z⟩
  have v03 := same_trans v02 (same_trans s5 (same_trans s6 v3))
  have hS3 := v03.seq hS
  have hT3 := hT.ext v03
  clear hS hT
  refine ⟨3, rfl, by decide, by decide, for_range (lo := 0) (n := 3) (fun i σ H' => (∃ x1 x2 x3 x4 x5 x6 x7 x8 x9 x10 x11 x12 x13 x14 x15 x16 x17, σ = [some (.ref a), x1, x2, x3, x4, x5, x6, x7, x8, x9, x10, x11, x12, x13, x14, x15, x16, x17]) ∧ SqL K H' a (ns.map V.int) ∧ Tb (He.cT K pRef).2 q36 H')
    ⟨⟨_, _, _, _, _, _, _, _, _, _, _, _, _, _, _, _, _, rfl⟩, hS3, hT3⟩ (fun i σ Hi i3 p => ?_) (fun σ H' p => q _)⟩
  obtain ⟨⟨x1, x2, x3, x4, x5, x6, x7, x8, x9, x10, x11, x12, x13, x14, x15, x16, x17, rfl⟩, hSi, hTi⟩ := p
  have e0 : (0 : Int) + (i : Nat) = ((i : Nat) : Int) := by omega
  rw [e0]
  refine ⟨_, rfl, _, rfl, a, ns, i, rfl, hSi, by omega, fun Ha p sa np hBa => ?_⟩
  refine ⟨_, rfl, p, 3, rfl, hBa, by decide, by decide, fun Hb r r0 r3 hBb eb => ⟨_, _, rfl, rfl, ?_⟩⟩
  have hTb := tab_but (hTi.ext sa) hBa (But.eq eb)
  have exb : LamX.ExtN Hi Hb := ext_but (ext_same sa) np (But.eq eb)
  obtain ⟨n, en⟩ : ∃ n : Nat, (1 : Int) + r = (n : Int) := ⟨(1 + r).toNat, by omega⟩
  have n1 : 1 ≤ n := by omega
  have n3 : n ≤ 3 := by omega
  show ((fun v σ H' => _) : TG) (V.int (1 + r)) _ _ _
  rw [en]
  refine ⟨(by show 0 ≤ sizeLine; decide), fun S hS0 => ?_⟩
  have sc := same_new (o := .lst []) hS0
  have hBc := hBb.same sc
  have hTc := hTb.ext sc
  have exc := exb.trans (ext_same sc)
  have nSp : S ≠ p := hBb.ne hS0
  refine ⟨_, rfl, p, 7, rfl, hBc, by decide, by decide, fun Hd r7 r70 r77 hBd ed => ⟨_, _, rfl, rfl, 1 + r7, rfl, by omega, by omega, for_range (lo := 0) (n := (1 + r7).toNat)
    (fun j σ H' => (∃ x1 x6 x7 x8 x9 x10 x11 x12 x13 x14 x15 x16 x17, σ = [some (.ref a), x1, some (.int (i : Nat)), some (.ref p), some (.int (n : Nat)), some (.ref S), x6, x7, x8, x9, x10, x11, x12, x13, x14, x15, x16, x17]) ∧
      LamX.ExtN Hi H' ∧ BoxAt H' p ∧ Tb (He.cT K pRef).2 q36 H' ∧ ∃ ps : List Pm, Shs K H' p S ps ∧ ps.length = j ∧ ∀ q ∈ ps, Drawn n q)
    ⟨⟨_, _, _, _, _, _, _, _, _, _, _, _, _, rfl⟩, ext_but exc np (But.eq ed), hBd, tab_but hTc hBc (But.eq ed), [], ⟨nSp, [], (ed _ nSp).trans upd_same, .nil⟩, rfl, fun q hq => by cases hq⟩ (fun j σ Hj j7 pv => ?_) (fun σ Hj pv => ?_)⟩⟩
  · obtain ⟨⟨x1, x6, x7, x8, x9, x10, x11, x12, x13, x14, x15, x16, x17, rfl⟩, exe, hBe, hTe, ps, hSh, pl, hdr⟩ := pv
    refine ⟨_, rfl, (n : Int), rfl, by omega, by omega, fun M hM0 => lc_range (lo := 0) (n := n) (fun i H' => But p Hj H' ∧ BoxAt H' p ∧ Tb (He.cT K pRef).2 q36 H' ∧ ∃ ms : List Int, ms.length = i ∧ H' M = some (.lst (ms.map V.int)))
      ⟨But.of (same_new hM0), hBe.same (same_new hM0), hTe.ext (same_new hM0), [], rfl, upd_same⟩ (fun i H' hi pv => ?_) (fun Hm pv => ?_)⟩
    · obtain ⟨bv, hBv, hTv, ms, lm, hMv⟩ := pv
      have nMp : M ≠ p := hBe.ne hM0
      refine ⟨rfl, ⟨_, rfl, (by show 5 ≤ sizeLine; decide), fun L hL => ⟨p, L, _, rfl, hBv.same (same_new hL), (hBv.ne hL).symm, SqL.of upd_same, (by show 0 < 5; decide), (by show 5 ≤ 1000; decide), fun H5 v hv hB5 e5 => ?_⟩⟩⟩
      have sL := same_new (o := .lst [.int 0, .int 1, .int 1, .int 2, .int 2]) hL
      have hz : ∃ z, v = .int z := by
        simp only [List.mem_cons, List.mem_nil_iff, or_false] at hv
        rcases hv with rfl | rfl | rfl | rfl | rfl <;> exact ⟨_, rfl⟩
      obtain ⟨z, rfl⟩ := hz
      have b5 := (But.of sL).trans (But.eq e5)
      have hM5 := b5 _ _ hMv nMp
      refine ⟨_, hM5, by rw [List.length_map]; omega, fun b o hb nb => ?_, ?_, ?_, ms ++ [z], by rw [List.length_append, lm]; rfl, by rw [List.map_append]; exact upd_same⟩
      · rw [upd_ne (ne_of_none hb hM0)]
        exact b5 _ _ (bv _ _ hb nb) nb
      · obtain ⟨x, y, z, e⟩ := hB5
        exact ⟨x, y, z, by rw [upd_ne nMp.symm]; exact e⟩
      · exact tab_upd (tab_but (hTv.ext sL) (hBv.same sL) (But.eq e5)) hM5
    obtain ⟨bm, hBm, hTm, ms, lm, hM1⟩ := pv
    have exm : LamX.ExtN Hi Hm := ext_but exe np bm
    have hShm := hSh.but bm
    refine ⟨_, rfl, M, rfl, lc_enP (fun D i H' => LcI Hm D ((posU 1 ms i).map V.int) H') (SqL.of hM1) (fun D hD => lci_0 hD) (fun D i H' z => z.1) (fun D hD i x H' T hx pv hT => ?_) (fun D Hn hDn pv => ?_)⟩
    · obtain ⟨sv, dv⟩ := pv
      rw [List.getElem?_map] at hx
      obtain ⟨m, hm, rfl⟩ := Option.map_eq_some_iff.mp hx
      have st := same_new (o := .tup [.int (i : Nat), .int m]) hT
      refine ⟨T, _, rfl, SqT.of upd_same, rfl, _, _, rfl, _, _, rfl, rfl, rfl, ⟨_, rfl, rfl, _, rfl, ite2 (fun c => ?_) (fun c => ?_)⟩⟩
      · have em : m = 1 := V.int.inj (of_decide_eq_true c)
        refine ⟨_, rfl, _, _, rfl, rfl, ?_⟩
        refine lci_step ⟨same_trans sv st, st _ _ dv⟩ hD (by rw [List.length_map]; have := posU_len 1 ms i; have := (List.getElem?_eq_some_iff.mp hm).1; omega) ?_
        rw [posU_succ, if_pos (by rw [hm, em]), List.map_append]
        rfl
      · have em : ¬ m = 1 := fun z => by rw [z] at c; exact absurd c (by decide)
        show LcI _ _ _ _
        rw [posU_succ, if_neg (fun z => em (by rw [hm] at z; exact Option.some.inj z)), List.append_nil]
        exact ⟨same_trans sv st, st _ _ dv⟩
    obtain ⟨sl, hl⟩ := pv
    rw [List.length_map] at hl
    have hM2 := sl _ _ hM1
    refine ⟨_, rfl, .inl ⟨rfl, _, SqL.of (sl _ _ hShm.x.choose_spec.1)⟩, ⟨_, rfl, _, rfl, M, rfl, lc_enP (fun D i H' => LcI Hn D ((posU 2 ms i).map V.int) H') (SqL.of hM2) (fun D hD => lci_0 hD) (fun D i H' z => z.1) (fun D hD i x H' T hx pv hT => ?_) (fun R Ho hR pv => ?_)⟩⟩
    · obtain ⟨sv, dv⟩ := pv
      rw [List.getElem?_map] at hx
      obtain ⟨m, hm, rfl⟩ := Option.map_eq_some_iff.mp hx
      have st := same_new (o := .tup [.int (i : Nat), .int m]) hT
      refine ⟨T, _, rfl, SqT.of upd_same, rfl, _, _, rfl, _, _, rfl, rfl, rfl, ⟨_, rfl, rfl, _, rfl, ite2 (fun c => ?_) (fun c => ?_)⟩⟩
      · have em : m = 2 := V.int.inj (of_decide_eq_true c)
        refine ⟨_, rfl, _, _, rfl, rfl, ?_⟩
        refine lci_step ⟨same_trans sv st, st _ _ dv⟩ hD (by rw [List.length_map]; have := posU_len 2 ms i; have := (List.getElem?_eq_some_iff.mp hm).1; omega) ?_
        rw [posU_succ, if_pos (by rw [hm, em]), List.map_append]
        rfl
      · have em : ¬ m = 2 := fun z => by rw [z] at c; exact absurd c (by decide)
        show LcI _ _ _ _
        rw [posU_succ, if_neg (fun z => em (by rw [hm] at z; exact Option.some.inj z)), List.append_nil]
        exact ⟨same_trans sv st, st _ _ dv⟩
    obtain ⟨so, hR1⟩ := pv
    rw [List.length_map] at hR1
    rw [lm] at hl hR1
    have hBn := hBm.same sl
    have hBo := hBn.same so
    refine ⟨(by show 2 ≤ sizeLine; decide), fun T hT => ?_⟩
    have sT := same_new (o := .tup [.ref D, .ref R]) hT
    have smo := same_trans sl (same_trans so sT)
    have hSho := hShm.same smo
    have nD : D ≠ p := hBm.ne hDn
    have nR : R ≠ p := hBn.ne hR
    have nT : T ≠ p := hBo.ne hT
    obtain ⟨vs0, hvs0, _⟩ := hShm.x
    have dS : D ≠ S := (ne_of_none hvs0 hDn).symm
    have rS : R ≠ S := (ne_of_none (sl _ _ hvs0) hR).symm
    have tS : T ≠ S := (ne_of_none (so _ _ (sl _ _ hvs0)) hT).symm
    obtain ⟨vs, hvs, vl, hSh2⟩ := hSho.push (q := (posU 1 ms n, posU 2 ms n)) upd_same (sT _ _ (so _ _ hl)) (sT _ _ hR1) ⟨nT, nD, nR⟩ ⟨tS, dS, rS⟩
    refine ⟨S, vs, .ref T, rfl, rfl, hvs, by omega, ⟨_, _, _, _, _, _, _, _, _, _, _, _, _, rfl⟩, ?_, ?_, ?_, ps ++ [(posU 1 ms n, posU 2 ms n)], hSh2, by rw [List.length_append, pl]; rfl, fun q hq => ?_⟩
    · exact fun b o e nt => by rw [upd_ne (ne_of_none (exb b o e nt) hS0)]; exact (exm.trans (ext_same smo)) b o e nt
    · obtain ⟨x, y, z, e⟩ := hBo.same sT
      exact ⟨x, y, z, by rw [upd_ne nSp.symm]; exact e⟩
    · exact tab_upd (hTm.ext smo) hvs
    · rcases List.mem_append.mp hq with hq | hq
      · exact hdr q hq
      · rw [List.mem_singleton.mp hq]
        exact drawn_of ms n
  obtain ⟨⟨x1, x6, x7, x8, x9, x10, x11, x12, x13, x14, x15, x16, x17, rfl⟩, exj, hBj, hTj, ps, hSh, pl, hdr⟩ := pv
  have l1 : 1 ≤ ps.length := by omega
  have l7 : ps.length ≤ 7 := by omega
  have hc : ∀ p ∈ ps, can3 p := fun p hp => (hdr p hp).can n3
  refine ⟨_, rfl, n, rfl, n3, fun Hk rl sk nk hL => ?_⟩
  obtain ⟨rv, hrv, drv⟩ := hL
  have rvl : rv.length = (rowsL n).length := by
    have := dpAll_len drv
    rwa [List.length_map] at this
  have rows8 : (rowsL n).length ≤ 8 := by
    obtain rfl | rfl | rfl : n = 1 ∨ n = 2 ∨ n = 3 := by omega
    · decide
    · decide
    · decide
  have hShk := hSh.same sk
  refine ⟨rl, rfl, lc_sqD (fun i => (((rowsL n).take i).filter (awakeB ps)).map rowD) (.inl (SqL.of hrv)) rfl (fun G hG i x H' hx pI => ?_) (fun G Hl hG pI => ?_)⟩
  · obtain ⟨d, hd, dx⟩ := dpAll_get drv hx
    rw [List.getElem?_map] at hd
    obtain ⟨r, hr2, rfl⟩ := Option.map_eq_some_iff.mp hd
    have rr := rowsL_row n r (List.mem_of_getElem? hr2)
    have s1 := pI.1
    refine ⟨rfl, ⟨_, rfl, _, rfl, .ref S, x, ps, r, rfl, (hShk.same s1).dp, dp_mono s1 _ _ dx, (fun q hq => by rw [rr.1]; exact ⟨(hdr q hq).b1, (hdr q hq).b2⟩), (fun q hq => by have d := hdr q hq; have e1 := d.l1; have e2 := d.l2; exact ⟨by omega, by omega⟩), fun H2 s2 => ⟨_, rfl, ite2 (fun c => ?_) (fun c => ?_)⟩⟩⟩
    · refine ⟨_, rfl, lcd_step (d := rowD r) pI s2 hG (by rw [List.length_map]; have a1 := List.length_filter_le (awakeB ps) ((rowsL n).take i); rw [List.length_take] at a1; omega) (rows_firm _) (row_firm r) (dp_mono (same_trans s1 s2) _ _ dx) ?_⟩
      rw [List.take_succ, hr2, List.filter_append, List.map_append]
      congr 1
      show (List.filter (awakeB ps) [r]).map rowD = _
      rw [List.filter_cons_of_pos c]
      rfl
    · have e : ((rowsL n).take (i + 1)).filter (awakeB ps) = ((rowsL n).take i).filter (awakeB ps) := by
        rw [List.take_succ, hr2, List.filter_append]
        show _ ++ List.filter (awakeB ps) [r] = _
        rw [List.filter_cons_of_neg (by simpa using c)]
        exact List.append_nil _
      rw [e]
      exact ⟨same_trans s1 s2, pI.2.same s2⟩
  rw [rvl, List.take_length] at pI
  obtain ⟨sl, hLr⟩ := pI
  have hShl := hShk.same sl
  obtain ⟨us, hus, dus⟩ := hShl.x
  have dusl := dpAll_mono (same_trans del_le del_le) _ _ dus
  have lu : us.length = ps.length := by
    have := dpAll_len dus
    rwa [List.length_map] at this
  refine ⟨_, rfl, S, rfl, lc_sqP (fun D i H' => Same Hl H' ∧ LX K H' D ((ps.take i).map liD)) (.inl (SqL.of hus)) (fun D hD => ⟨same_new hD, LX.new⟩) (fun D i H' z => z.1) (fun D hD i x H' hx z => ?_) (fun D Hm hD z => ?_)⟩
  · obtain ⟨s1, vs, hv, dv⟩ := z
    obtain ⟨d, hd, dx⟩ := dpAll_get dusl hx
    rw [List.getElem?_map] at hd
    obtain ⟨q, hq, rfl⟩ := Option.map_eq_some_iff.mp hd
    obtain ⟨tq, ta, tb, rfl, hq1, hq2, hq3⟩ := sh_open dx
    refine ⟨rfl, ⟨_, rfl, tq, _, rfl, .inr (grow_sqT (grow_same s1) hq1), fun l hl => ?_⟩⟩
    have s2 := same_new (o := .lst [.ref ta, .ref tb]) hl
    have nl : l ≠ D := (ne_of_none hv hl).symm
    have sd : Same Hl (del (upd H' l (.lst [.ref ta, .ref tb])) D) := same_trans (del_new hD) (del_mono (same_trans s1 s2))
    have vl := dpAll_len dv
    rw [List.length_map, List.length_take] at vl
    refine ⟨vs, s2 _ _ hv, by omega, same_upd (same_trans s1 s2) hD, ?_⟩
    rw [List.take_succ, hq, List.map_append]
    refine LX.push (dpAll_mono (del_mono s2) _ _ dv) ?_
    show Dp K _ _ (liD q)
    exact .lst (SqL.of (by rw [del_ne nl]; exact upd_same)) (.cons (.lst (sd.seq hq2) (ints_dp _)) (.cons (.lst (sd.seq hq3) (ints_dp _)) .nil))
  obtain ⟨s1, hX⟩ := z
  rw [lu, List.take_length] at hX
  have enL := need_of n3 hdr f_li (d := .list (ps.map liD)) rfl
  refine ⟨.ref D, .list (ps.map liD), ps, rfl, hX.dp, few_of' n3 l7 hdr f_li rfl, enL, fun v Hn sn dv => ?_⟩
  generalize fo : found ps = o at dv
  have sln := same_trans s1 sn
  have sjn := same_trans sk (same_trans sl sln)
  have exn := exj.trans (ext_same sjn)
  have hBn := hBj.same sjn
  have hTn := hTj.ext sjn
  have hShn := hSh.same sjn
  obtain ⟨wv, hwv, dwv⟩ := id (hLr.same sln)
  have hrows := told_rows n3 hdr
  rw [fo] at hrows
  have wk : ∀ q ∈ ps, can3 (norm q) ∧ q.1.length < 64 ∧ q.2.length < 64 := fun q hq => by
    have d := hdr q hq
    have l1 := d.l1
    have l2 := d.l2
    exact ⟨by rw [d.norm]; exact d.can n3, by omega, by omega⟩
  have nrm := norms hdr
  refine ⟨_, rfl, rfl, _, rfl, (by show 0 ≤ sizeLine; decide), fun q0 hq0 => ?_⟩
  have sq := same_new (o := .lst []) hq0
  refine ⟨.list (((rowsL n).filter (awakeB ps)).map rowD), .list [], .lst (SqL.of (sq _ _ hwv)) (dpAll_mono sq _ _ dwv), .lst (SqL.of upd_same) .nil, rows_shaped _, rfl, rfl, _, rfl, ?_⟩
  rw [rows_eqv]
  have exq := exn.trans (ext_same sq)
  have hBq := hBn.same sq
  have hTq := hTn.ext sq
  have hShq := hShn.same sq
  have kk : ∀ H' y1 y2 y3 y4 y5 y6 y7 y8 y9 y10 y11 y12, LamX.ExtN Hi H' → Tb (He.cT K pRef).2 q36 H' → (∃ x1 x2 x3 x4 x5 x6 x7 x8 x9 x10 x11 x12 x13 x14 x15 x16 x17, [some (.ref a), some v, some (.int (i : Nat)), some (.ref p), some (.int (n : Nat)), some (.ref S), y1, y2, y3, y4, y5, y6, y7, y8, y9, y10, y11, y12] = [some (.ref a), x1, x2, x3, x4, x5, x6, x7, x8, x9, x10, x11, x12, x13, x14, x15, x16, x17]) ∧ SqL K H' a (ns.map V.int) ∧ Tb (He.cT K pRef).2 q36 H' := fun H' y1 y2 y3 y4 y5 y6 y7 y8 y9 y10 y11 y12 e t =>
    ⟨⟨_, _, _, _, _, _, _, _, _, _, _, _, _, _, _, _, _, rfl⟩, sqL_ext e hSi, t⟩
  cases o with
  | none =>
    have hr := hrows.mp rfl
    cases dv
    rw [decide_eq_false hr]
    refine iteF ⟨_, rfl, rfl, _, rfl, iteF ?_⟩
    exact rtt _ Hi _ a p S .non i n ps none _ _ _ _ _ _ _ _ _ _ _ _ exq np hBq hTq hShq l1 l7 hdr n3 fo .non kk
  | some ts =>
    have hr : (rowsL n).filter (awakeB ps) = [] := Classical.byContradiction fun z => by
      have := hrows.mpr z
      cases this
    have R := found_some hc fo
    have dvq := dp_mono sq _ _ dv
    obtain ⟨t, rfl⟩ : ∃ t, v = .ref t := by
      cases dv
      exact ⟨_, rfl⟩
    rw [decide_eq_true hr]
    obtain ⟨fs, hw, he, hlast⟩ := R.come
    have hbr : broughtD (ps.map norm) (.tuple (ts.map stpD)) = some fs := by
      rw [nrm]
      exact walk_D ts ps fs hc hw
    have hcome : comeD (ps.map norm) (.tuple (ts.map stpD)) = true := by
      unfold comeD
      rw [hbr]
      exact decide_eq_true he
    have d60 : ∀ ds, PyData.tuple (ts.map stpD) = .tuple ds → ds.length ≤ 60 := fun ds z => by
      cases z
      rw [List.length_map]
      have := R.few
      omega
    have enT := need_of n3 hdr f_sh (d := .tuple (ps.map shD)) rfl
    refine iteF ⟨_, rfl, rfl, _, rfl, iteT ?_⟩
    refine ⟨_, rfl, _, rfl, .ref S, .ref t, ps, .tuple (ts.map stpD), rfl, hShq.dp, dvq, d60, wk, by omega, fun H1 v1 => ?_⟩
    rw [hcome]
    refine ⟨_, rfl, iteF ?_⟩
    refine ⟨_, rfl, (by show 0 ≤ sizeLine; decide), fun q1 h1 => ?_⟩
    have r1 := same_new (o := .tup []) h1
    have v2 := same_trans v1 r1
    refine ⟨.tuple (ts.map stpD), .tuple [], dp_mono v2 _ _ dvq, .tup (SqT.of upd_same) .nil, stps_shaped' ts, rfl, _, rfl, ?_⟩
    rw [stps_eqv]
    by_cases hts : ts = []
    · rw [decide_eq_true hts]
      refine iteF (iteF ?_)
      refine ⟨_, rfl, (by show 0 ≤ sizeLine; decide), fun q3 h3 => ?_⟩
      have r3 := same_new (o := .tup []) h3
      have v3 := same_trans v2 r3
      refine ⟨.tuple (ts.map stpD), .tuple [], dp_mono v3 _ _ dvq, .tup (SqT.of upd_same) .nil, stps_shaped' ts, rfl, _, rfl, ?_⟩
      rw [stps_eqv, decide_eq_true hts]
      refine iteF (iteF ?_)
      -- steps_hold(value = told, sheets = tuple(sheets)) is not True, len(told) > 26
      obtain ⟨ws, hws, dws⟩ := (hShq.same v3).x
      have dwsH := dpAll_mono (same_trans del_le del_le) _ _ dws
      refine ⟨_, rfl, _, rfl, S, ws, rfl, .inl ⟨SqL.of hws, fun q5 h5 => ?_⟩⟩
      have r5 := same_new (o := .tup ws) h5
      have dv5 := dp_mono (same_trans v3 r5) _ _ dvq
      refine ⟨.ref q5, .ref t, .tuple (ps.map shD), .tuple (ts.map stpD), rfl, .tup (SqT.of upd_same) (dpAll_mono r5 _ _ dwsH), dv5, few_of' n3 l7 hdr f_sh rfl, (fun ds z => by cases z; rw [List.length_map]; have := R.few; omega), (fun k z => by rw [enT] at z; cases z), fun qs eqs H6 v6 => ?_⟩
      rw [enT] at eqs
      cases eqs
      have hcome2 : comeD ps (.tuple (ts.map stpD)) = true := by rw [nrm] at hcome; exact hcome
      rw [hcome2]
      have vv6 := same_trans v3 (same_trans r5 v6)
      have dv6 := dp_mono vv6 _ _ dvq
      obtain ⟨tv, htv, dtv⟩ : ∃ tv, SqT K H6 t tv ∧ DpAll K H6 tv (ts.map stpD) := by
        cases dv6 with
        | tup hs ha => exact ⟨_, hs, ha⟩
      have ltv : tv.length = ts.length := by
        have := dpAll_len dtv
        rwa [List.length_map] at this
      refine ⟨_, _, rfl, rfl, _, rfl, iteF ⟨_, rfl, t, tv, rfl, .inr htv, _, _, rfl, rfl, _, rfl, ?_⟩⟩
      rw [decide_eq_false (show ¬ (26 : Int) < ((tv.length : Nat) : Int) by rw [ltv]; have := R.few; omega)]
      exact iteF (rtt _ Hi _ a p S (.ref t) i n ps (some ts) _ _ _ _ _ _ _ _ _ _ _ _ (exq.trans (ext_same vv6)) np (hBq.same vv6) (hTq.ext vv6) (hShq.same vv6) l1 l7 hdr n3 fo dv6 kk)
    · rw [decide_eq_false hts]
      refine iteT ?_
      obtain ⟨ws, hws, dws⟩ := (hShq.same v2).x
      have lws : ws.length = ps.length := by
        have := dpAll_len dws
        rwa [List.length_map] at this
      refine ⟨_, rfl, S, ws, rfl, .inl (SqL.of hws), _, rfl, .ref t, ws.length, ts, rfl, dp_mono v2 _ _ dvq, hts, (by have := R.few; omega), by omega, fun H2 v2' => ?_⟩
      rw [lws, R.use hts]
      have v4 := same_trans v2 v2'
      refine ⟨_, rfl, iteF ?_⟩
      refine ⟨_, rfl, (by show 0 ≤ sizeLine; decide), fun q3 h3 => ?_⟩
      have r3 := same_new (o := .tup []) h3
      have v5 := same_trans v4 r3
      refine ⟨.tuple (ts.map stpD), .tuple [], dp_mono v5 _ _ dvq, .tup (SqT.of upd_same) .nil, stps_shaped' ts, rfl, _, rfl, ?_⟩
      rw [stps_eqv, decide_eq_false hts]
      refine iteT ?_
      refine ⟨_, rfl, _, rfl, .ref S, .ref t, ps, .tuple (ts.map stpD), rfl, (hShq.same v5).dp, dp_mono v5 _ _ dvq, d60, wk, by omega, (fun z => by rw [hbr] at z; cases z), fun gs eg H7 t7 v7 n7 hL7 => ?_⟩
      rw [hbr] at eg
      cases eg
      obtain ⟨lv, hlv, dlv⟩ := hL7
      have vl := dpAll_len dlv
      rw [List.length_map] at vl
      have hne : fs ≠ [] := fun z => by rw [z] at he; cases he
      have l0 : 0 < fs.length := List.length_pos_iff.mpr hne
      have hlast2 := hlast hts
      rw [List.getLast?_eq_getElem?] at hlast2
      obtain ⟨lu', hlu, dlu⟩ := dpAll_at dlv (show (fs.map pmD)[fs.length - 1]? = some (pmD E0) by rw [List.getElem?_map, hlast2]; rfl)
      have hat : atI lv (0 - 1) = some lu' := by
        have e1 : ixN lv.length (0 - 1) = some (lv.length - 1) := by
          unfold ixN
          rw [if_neg (by decide), if_pos (by omega)]
          congr 1
          omega
        unfold atI
        rw [e1, vl]
        exact hlu
      refine ⟨_, _, rfl, rfl, ix_at (.inl (SqL.of hlv)) hat ?_⟩
      refine ⟨(by show 0 ≤ sizeLine; decide), fun q8 h8 => ⟨(by show 0 ≤ sizeLine; decide), fun q9 h9 => ⟨(by show 2 ≤ sizeLine; decide), fun q10 h10 => ?_⟩⟩⟩
      have r8 := same_new (o := .tup []) h8
      have r9 := same_new (o := .tup []) h9
      have r10 := same_new (o := .tup [.ref q8, .ref q9]) h10
      have r810 := same_trans r8 (same_trans r9 r10)
      refine ⟨pmD E0, pmD E0, dp_mono r810 _ _ dlu, .tup (SqT.of upd_same) (.cons (.tup (SqT.of (r10 _ _ (r9 _ _ upd_same))) .nil) (.cons (.tup (SqT.of (r10 _ _ upd_same)) .nil) .nil)), rfl, rfl, _, rfl, ?_⟩
      rw [eqv_pm, decide_eq_true rfl]
      refine iteF ?_
      have v8 := same_trans v5 (same_trans v7 r810)
      -- steps_hold(value = told, sheets = tuple(sheets)) is not True, len(told) > 26
      obtain ⟨ws, hws, dws⟩ := (hShq.same v8).x
      have dwsH := dpAll_mono (same_trans del_le del_le) _ _ dws
      refine ⟨_, rfl, _, rfl, S, ws, rfl, .inl ⟨SqL.of hws, fun q5 h5 => ?_⟩⟩
      have r5 := same_new (o := .tup ws) h5
      have dv5 := dp_mono (same_trans v8 r5) _ _ dvq
      refine ⟨.ref q5, .ref t, .tuple (ps.map shD), .tuple (ts.map stpD), rfl, .tup (SqT.of upd_same) (dpAll_mono r5 _ _ dwsH), dv5, few_of' n3 l7 hdr f_sh rfl, (fun ds z => by cases z; rw [List.length_map]; have := R.few; omega), (fun k z => by rw [enT] at z; cases z), fun qs eqs H6 v6 => ?_⟩
      rw [enT] at eqs
      cases eqs
      have hcome2 : comeD ps (.tuple (ts.map stpD)) = true := by rw [nrm] at hcome; exact hcome
      rw [hcome2]
      have vv6 := same_trans v8 (same_trans r5 v6)
      have dv6 := dp_mono vv6 _ _ dvq
      obtain ⟨tv, htv, dtv⟩ : ∃ tv, SqT K H6 t tv ∧ DpAll K H6 tv (ts.map stpD) := by
        cases dv6 with
        | tup hs ha => exact ⟨_, hs, ha⟩
      have ltv : tv.length = ts.length := by
        have := dpAll_len dtv
        rwa [List.length_map] at this
      refine ⟨_, _, rfl, rfl, _, rfl, iteF ⟨_, rfl, t, tv, rfl, .inr htv, _, _, rfl, rfl, _, rfl, ?_⟩⟩
      rw [decide_eq_false (show ¬ (26 : Int) < ((tv.length : Nat) : Int) by rw [ltv]; have := R.few; omega)]
      exact iteF (rtt _ Hi _ a p S (.ref t) i n ps (some ts) _ _ _ _ _ _ _ _ _ _ _ _ (exq.trans (ext_same vv6)) np (hBq.same vv6) (hTq.ext vv6) (hShq.same vv6) l1 l7 hdr n3 fo dv6 kk)
end
end K07

set_option Elab.async false
set_option linter.all false
set_option pp.maxSteps 800
set_option maxRecDepth 100000
set_option maxHeartbeats 8000000
namespace K07
open PySem PySem.Spec PyProof.Rows L2 Say LamX
/-! ### the way in: one table of codes, nothing under way -/
/-- what stands before the law is called -/
structure Before (K : PySem.W.Frag) (mg mb : Str → Option Value) (c T a : Addr) (vs : List Value) (s : Shared) : Prop where
  kin : K.In s.heap
  glob : s.heap.Ns mainGlobals mg
  blt : s.heap.Ns builtinsNs mb
  bls : ∀ x : Str, x ≠ "__name__" → mb x = bootBuiltins x
  lim : s.heap.NoLimit
  gens : s.gens = #[]
  tab : s.heap.get? T = some { cls := .none, data := .fields #[] }
  nk : K.lookup T = none
  code : PySem.W.CodeHd s.heap c T
  main : ∃ (bm : Addr) (ob : Obj), mg "__builtins__" = some (.ref bm) ∧ bm ≠ builtinsNs ∧ s.heap.get? bm = some ob ∧ ob.cls = .type "module" ∧ ob.dict = some builtinsNs ∧ ob.data = .plain
  lst : s.heap.get? a = some { cls := .type "list", data := .seq vs.toArray }
theorem Before.apart {K : PySem.W.Frag} {mg mb : Str → Option Value} {c T a : Addr} {vs : List Value} {s : Shared} (B : Before K mg mb c T a vs s) : a ≠ T := fun z => by
  have q := B.tab
  rw [← z, B.lst] at q
  have e : Data.seq vs.toArray _ = Data.fields #[] := congrArg Obj.data (Option.some.inj q)
  cases e
/-- what of the heap is told: the table, and the script if the head does not know it -/
def told0 (K : PySem.W.Frag) (T a : Addr) (vs : List Value) (ns : List Int) : Hp := fun b =>
  if b = T then some (.tbl #[]) else if b = a ∧ K.lookup a = none then some (.frz { cls := .type "list", data := .seq vs.toArray } (.lst (ns.map V.int))) else none
section
variable {P : Program} {w : World} {K : PySem.W.Frag} {mg mb : Str → Option Value} {c T a : Addr} {vs : List Value} {ns : List Int} {s : Shared}
theorem told0_T : told0 K T a vs ns T = some (.tbl #[]) := if_pos rfl
theorem told0_off {b : Addr} (h1 : b ≠ T) (h2 : b ≠ a) : told0 K T a vs ns b = none := by
  unfold told0
  rw [if_neg h1, if_neg (fun z => h2 z.1)]
theorem told0_a (h : a ≠ T) (k : K.lookup a = none) : told0 K T a vs ns a = some (.frz { cls := .type "list", data := .seq vs.toArray } (.lst (ns.map V.int))) := by
  unfold told0
  rw [if_neg h, if_pos ⟨rfl, k⟩]
theorem told0_k (h : a ≠ T) (k : K.lookup a ≠ none) : told0 K T a vs ns a = none := by
  unfold told0
  rw [if_neg h, if_neg (fun z => k z.2)]
theorem told0_seq (B : Before K mg mb c T a vs s) (hi : IntsAre vs ns) (hl : ns.length ≤ sizeLine) : SqL K (told0 K T a vs ns) a (ns.map V.int) := by
  by_cases k : K.lookup a = none
  · exact .inl (.inr ⟨_, told0_a B.apart k⟩)
  · cases e : K.lookup a with
    | none => exact absurd e k
    | some o =>
      have e2 := B.kin a o e
      rw [B.lst] at e2
      cases e2
      exact .inr ⟨_, vs.toArray, _, e, rfl, rfl, rfl, by rw [List.size_toArray, hi.length]; exact hl, by simpa using vals_ints hi⟩
theorem told0_ok (B : Before K mg mb c T a vs s) (hi : IntsAre vs ns) (hl : ns.length ≤ sizeLine) : HOk P w (told0 K T a vs ns) s.heap := fun b u e => by
  by_cases h1 : b = T
  · rw [h1, told0_T] at e
    cases e
    rw [h1]
    exact B.tab
  · by_cases h2 : b = a
    · by_cases k : K.lookup a = none
      · rw [h2, told0_a B.apart k] at e
        cases e
        rw [h2]
        exact ⟨B.lst, by rw [List.length_map]; exact hl, vs, _, vals_ints hi, B.lst⟩
      · rw [h2, told0_k B.apart k] at e
        cases e
    · rw [told0_off h1 h2] at e
      cases e
/-- what is no list and no empty table is told nowhere -/
theorem told0_no (B : Before K mg mb c T a vs s) {b : Addr} {o : Obj} (e : s.heap.get? b = some o) (h1 : ∀ xs n, o.data ≠ .seq xs n) (h2 : o.data ≠ .fields #[]) : told0 K T a vs ns b = none := by
  refine told0_off (fun z => ?_) (fun z => ?_)
  · rw [z, B.tab] at e
    cases e
    exact h2 rfl
  · rw [z, B.lst] at e
    cases e
    exact h1 _ _ rfl
theorem told0_kin (B : Before K mg mb c T a vs s) : K.In (hidT s.heap (told0 K T a vs ns)) := fun b o e => by
  refine hidT_get (B.kin b o e) ?_
  by_cases h1 : b = T
  · rw [h1, B.nk] at e
    cases e
  · by_cases h2 : b = a
    · rw [h2]
      exact told0_k B.apart (by rw [← h2, e]; exact fun z => by cases z)
    · exact told0_off h1 h2
theorem told0_ns (B : Before K mg mb c T a vs s) {b : Addr} {m : Str → Option Value} (h : s.heap.Ns b m) : (hidT s.heap (told0 K T a vs ns)).Ns b m := by
  obtain ⟨o, es, ep, e, d, r⟩ := h
  exact ⟨o, es, ep, hidT_get e (told0_no B e (fun xs n z => by rw [d] at z; cases z) (fun z => by rw [d] at z; cases z)), d, r⟩
theorem told0_tab (B : Before K mg mb c T a vs s) : TabB (hidT s.heap (told0 K T a vs ns)) mg c T := by
  refine ⟨?_, ?_, fun z => ?_⟩
  · obtain ⟨o, us, file, tf, flags, tg, inF, text, tt, e1, r1, r2, r3, r4, r5, r6, r7, r8, hne⟩ := B.code
    refine ⟨o, us, file, tf, flags, tg, inF, text, tt, hidT_get e1 (told0_no B e1 (fun xs n z => by rw [r2] at z; cases z) (fun z => ?_)), r1, r2, r3, r4, r5, r6, r7, r8, hne⟩
    rw [r2] at z
    cases z
    simp at r3
  · obtain ⟨bm, ob, b1, b2, b3, b4, b5, b6⟩ := B.main
    refine ⟨bm, ob, b1, b2, fun q => ?_, fun q => ?_, hidT_get b3 (told0_no B b3 (fun xs n z => by rw [b6] at z; cases z) (fun z => by rw [b6] at z; cases z)), b4, b5, b6⟩
    · obtain ⟨o, es, ep, e, hd, _⟩ := B.glob
      rw [q, e] at b3
      cases b3
      rw [hd] at b6
      cases b6
    · rw [q, B.tab] at b3
      cases b3
      cases b6
  · obtain ⟨o, es, ep, e, hd, _⟩ := B.glob
    rw [z, B.tab] at e
    cases e
    cases hd
theorem told0_env (B : Before K mg mb c T a vs s) (hi : IntsAre vs ns) (hl : ns.length ≤ sizeLine) : Env0 P w K mg (hidT s.heap (told0 K T a vs ns)) callerA [] s (told0 K T a vs ns) :=
  ⟨rfl, ⟨told0_kin B, told0_ns B B.glob, ⟨mb, told0_ns B B.blt, B.bls⟩, let ⟨mc, h1, h2⟩ := B.lim; ⟨mc, told0_ns B h1, h2⟩⟩, fun b o e => of_hidT e, Nat.le_of_eq (hidT_size _ _), trivial, fun b hb => absurd (show b ∈ ([] : List Addr) from hb) (by simp), told0_ok B hi hl, .of_eq B.gens⟩
/-- the law called here answers True -/
theorem call_here {fa : Addr} (B : Before K mg mb c T a vs s) (hi : IntsAre vs ns) (hl : ns.length ≤ sizeLine)
    (run : codeAny (model P w) callerA (.call (.ref fa) ⟨[.ref a], []⟩) (CR CX0 [] P w (told0 K T a vs ns) s (fun v _ => v = .bl true) fun _ _ _ => False) s) :
    codeAny (model P w) callerA (.call (.ref fa) ⟨[.ref a], []⟩) (fun r s' => r = .ok (.ret (.bool true)) ∧ OldK s.heap s'.heap ∧ s'.os = s.os ∧ AllBare s'.gens) s := by
  refine codeAny_mono run fun r s' h => ?_
  cases r with
  | error e => exact False.elim h
  | ok fl =>
    cases fl with
    | next => exact False.elim h
    | brk => exact False.elim h
    | cont => exact False.elim h
    | ret u =>
      obtain ⟨v, H', os, bare, un, hok', r', q⟩ := h
      have q' : v = .bl true := q
      subst q'
      obtain rfl : u = Value.bool true := r'
      have hB0 := told0_ok (P := P) (w := w) B hi hl
      have key : ∀ b o, b ≠ T → s.heap.get? b = some o → s'.heap.get? b = some o := fun b o nb e => by
        by_cases h2 : b = a ∧ K.lookup a = none
        · obtain ⟨h2, k⟩ := h2
          have h3 := told0_a (vs := vs) (ns := ns) B.apart k
          obtain ⟨e2, _⟩ := hok' a _ (un.frzs a _ _ h3)
          rw [h2, B.lst] at e
          cases e
          rw [h2]
          exact e2
        · have hn : told0 K T a vs ns b = none := by
            unfold told0
            rw [if_neg nb, if_neg h2]
          exact un.keep b o e hn (by intro z; exact absurd (show b ∈ ([] : List Addr) from z) (by simp)) (by simp)
      obtain ⟨more, hm⟩ := un.tbls T #[] told0_T
      have hm2 := hok' T _ hm
      refine ⟨rfl, ⟨fun b o e => ?_, fun b o e => ?_⟩, os, bare⟩
      · by_cases hb : b = T
        · rw [hb] at e ⊢
          rw [B.tab] at e
          cases e
          exact .inr (.inl ⟨(B.code.tab B.tab).isCodeTable, rfl, #[], more, rfl, hm2⟩)
        · exact .inl (key b o hb e)
      · by_cases hb : b = T
        · rw [hb]
          exact ⟨_, hm2⟩
        · exact ⟨o, key b o hb e⟩
end
end K07

set_option Elab.async false
set_option linter.all false
set_option maxRecDepth 100000
set_option maxHeartbeats 8000000
namespace K07
open PySem PySem.Spec PyProof.Rows L2 Say LamX
theorem law_called {P : Program} {w : World} {K : PySem.W.Frag} {mg mb : Str → Option Value} {a : Addr} {vs : List Value} {ns : List Int} {s : Shared} (T : Tx K mg) (B : Before K mg mb (He.cT K pRef).1 (He.cT K pRef).2 a vs s) (hi : IntsAre vs ns) (hl : ns.length ≤ sizeLine) :
    codeAny (model P w) callerA (.call (.ref (He.ga K "law")) ⟨[.ref a], []⟩) (CR CX0 [] P w (told0 K (He.cT K pRef).2 a vs ns) s (fun v _ => v = .bl true) fun _ _ _ => False) s := by
  obtain ⟨fd, F⟩ := T.F_law
  have b := FunD.bindsA (ps := ["_law_script"]) F fun _ _ _ _ _ _ us hl => match us, hl with | [_], _ => rfl
  have hb := b s [.ref a] rfl
  obtain ⟨oc, od, dV, kV, doc, pm, an, cdv, ct, osl, rfl, lk, hcd, _, _⟩ := F.ex
  exact run_ofS (k := 8) (vs := [V.ref a]) (us := [Value.ref a]) lk hcd scLaw ⟨rfl, by decide, by decide⟩ (told0_env B hi hl) hb (.cons (show RelV (.ref a) (.ref a) from rfl) .nil) rfl fun hr => law_body (P := P) (w := w) (ou := []) (Q := fun v _ => v = .bl true) (E := fun _ _ _ => False) T (told0_tab B) hr rfl (told0_seq B hi hl) (TabS.nil told0_T) fun _ => rfl
end K07
open PySem PySem.W PySem.Calls PyProof.Rows
theorem PySem.Challenge.cw_saymakers_k07_whole_single_steps_or_a_ro_holds : PySem.Challenge.rw_saymakers_k07_whole_single_steps_or_a_ro.Holds := by
  w_on; o_law
  refine HandSHeadRun.head_any (r := K07.R) (q := view K07.R.prog [38]) (H := K07.hk) (ob := K07.ob) (M := 8000) (loose := K07.looseNames) (d := HandSHeadRun.topDef K07.R.prog 38) (kwd := []) K07.ob_eq
    (by kernel_rfl) (fun s => by kernel_rfl) K07.run (by kernel_rfl) (by kernel_rfl) (by kernel_rfl) (by rfl) (by first | assumption | decide +kernel) (by decide +kernel) ⟨rfl, rfl, rfl, rfl, rfl, by decide +kernel⟩ ?hw ?hc
  case hw => w_witness2
  case hc =>
    refine Att.attach_callB (l := PySem.Challenge.rw_saymakers_k07_whole_single_steps_or_a_ro) (hn := rfl) (by kernel_rfl) fun w s₀ s₁ mg mb fa o pm cd doc a vs ns G Y ho hd hcd hmg hobj hints hlen hbits hg => ?_
    obtain ⟨K, KX, c⟩ := Y
    have T := K07.tx_of KX G.T.g c
    have hmg2 : mg ("law" : PySem.Str) = some (.ref fa) := by
      have e : (HandSHeadRun.topDef K07.R.prog 38).name = ("law" : PySem.Str) := by kernel_rfl
      rw [← e]
      exact hmg
    have e := hmg2.symm.trans T.g_law
    cases e
    have hp : K07.pRef ∈ K07.tfs := List.mem_singleton.mpr rfl
    have hl : ns.length ≤ sizeLine := Nat.le_trans hlen (by decide)
    have B : K07.Before K mg mb (He.cT K K07.pRef).1 (He.cT K K07.pRef).2 a vs s₁ := ⟨KX, G.T.g, G.T.b, G.T.builtins, G.T.nolimit, hg, c.empty _ hp, c.out _ hp, codeHd_of_K KX (c.hd _ hp), G.T.bmain, hobj⟩
    exact K07.call_here B hints hl (K07.law_called T B hints hl)
#print axioms PySem.Challenge.cw_saymakers_k07_whole_single_steps_or_a_ro_holds
