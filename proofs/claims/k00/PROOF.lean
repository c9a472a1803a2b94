import PyProof.Rows.All
import Wide.All
import OpenK.AllK
import Wide.FinOn
import PyProof.EqAt
import PyProof.EqKinds
import PyProof.TupleCall
import KE.KExcInit
import HandS.ForExc
import HandS.ExcField
import HandS.ExcInit
import HandS.ExcOwn
import HandS.ExcValue
import HandS.MakeKwOnly
import KE.KStateDown
import Lean
import HandS.More
import HandS.Defaults
import HandS.Head0
import HandS.Head1
import HandS.Head2
import HandS.HeadEnd
import HandS.HeadHook1
import HandS.HeadHook2
import HandS.HeadHook3
import HandS.HeadHook4
import PySem.Challenge.RW_saymakers_k00_whole_errors_and_what_they
set_option Elab.async false
set_option linter.all false
set_option maxRecDepth 100000
set_option maxHeartbeats 4000000
/-! Own errors over Exception: made, filled, raised, read. -/
namespace Say
open PySem PySem.Spec PyProof.Rows L2
/-! ### 1. what the written part says of such a class -/
abbrev bmE : List Value := [.type "Exception", .type "BaseException", .type "object"]
structure EC (K : PySem.W.Frag) (C : Addr) : Prop where
  ini : PySem.W.excInitIn K C bmE "Exception.__new__" = true
  ovr : PySem.W.excOver K C bmE = true
  sa : PySem.W.findIn K (.ref C) "__setattr__" = some (some (.builtin "object.__setattr__"))
  xf : XfC K C
  ty : PySem.W.typeIn K (.ref C) = some (.type "type")
  kp : PySem.W.keepIn K (.ref C) = true
def saB (K : PySem.W.Frag) (C : Addr) : Bool :=
  decide (PySem.W.findIn K (.ref C) "__setattr__" = some (some (.builtin "object.__setattr__")))
def ecB (K : PySem.W.Frag) (C : Addr) : Bool :=
  (PySem.W.excInitIn K C bmE "Exception.__new__" && PySem.W.excOver K C bmE) && (saB K C && xfB K C) &&
    (decide (PySem.W.typeIn K (.ref C) = some (.type "type")) && PySem.W.keepIn K (.ref C))
theorem ecB_ok {K : PySem.W.Frag} {C : Addr} (h : ecB K C = true) : EC K C := by
  simp only [ecB, Bool.and_eq_true] at h
  obtain ⟨⟨⟨h1, h2⟩, h3, h4⟩, h5, h6⟩ := h
  exact ⟨h1, h2, of_decide_eq_true h3, xfB_ok h4, of_decide_eq_true h5, h6⟩
/-- no class on the way has this name of its own -/
def noB (K : PySem.W.Frag) (C : Addr) (f : Str) : Bool := decide (PySem.W.findIn K (.ref C) f = some none)
theorem noB_ok {K : PySem.W.Frag} {C : Addr} {f : Str} (h : noB K C f = true) : PySem.W.findIn K (.ref C) f = some none := of_decide_eq_true h

/-! ### 2. self.f = v in an __init__ -/
section
variable {prog : Program} {w : World} {A : Around} {R : Result → Shared → Prop} {K : PySem.W.Frag} {C x : Addr} {f : Str} {tk : Tok} {v : Value}
variable {hp : Heap} {g : Array GenState} {d : Drawn} {t : Nat} {os : OsState}
open PySem.W Builtin.ObjectAttr in
theorem raw_first {t0 : Addr} (T : EC K C) (X : K.In hp) (hx : hp.get? x = some (excObj C t0 none .none)) (hno : findIn K (.ref C) f = some none)
    (hq : ∀ h' tk' dx, (∀ b o, b ≠ x → hp.get? b = some o → h'.get? b = some o) → hp.objs.size ≤ dx → dx ≠ x →
      h'.get? x = some (excObj C t0 (some dx) .none) → h'.Ns1 dx (fun y => if y = f then some v else none) → R (.ok (.ret .none)) ⟨h', g, d, tk', os⟩) :
    codeAny (model prog w) A (.call (.builtin "object.__setattr__") ⟨[.ref x, .str f tk, v], []⟩) R ⟨hp, g, d, t, os⟩ := by
  have xs : x ≠ hp.objs.size := Nat.ne_of_lt (Heap.lt_size hx)
  refine osa_openX (od := none) PySem.F.store_Exception X ⟨hx, rfl, rfl, trivial⟩ T.ovr (NoAttr.taker hno) fun b => ?_
  obtain ⟨cd, hc, hd⟩ := any_some T.xf.hdC
  refine wpAny_bind (wpAny_pure (wpAny_bind (instanceDict_exc hx (looks_clsIn X hc) hd ?_)))
  show wpAny _ _ (storeInDict hp.objs.size (.str f tk) f v) _ _ _
  have old : ∀ b o, b ≠ x → hp.get? b = some o → ((hp.push (dictOf [] 0)).update x fun o => { o with dict := some hp.objs.size }).get? b = some o :=
    fun b o nb q => (Heap.get?_update_ne _ _ _ _ nb).trans (Heap.get?_push_of_some _ q)
  have me : ((hp.push (dictOf [] 0)).update x fun o => { o with dict := some hp.objs.size }).get? x = some (excObj C t0 (some hp.objs.size) .none) :=
    Heap.get?_update_self _ (Heap.get?_push_of_some _ hx) rfl
  refine HandSPX.store_in_new ⟨_, #[], _, (Heap.get?_update_ne _ _ _ _ xs.symm).trans (Heap.get?_push_at rfl rfl), rfl, fun e he => absurd he (by simp), fun _ => rfl⟩ fun h' tk' hn sb => ?_
  exact hq h' tk' _ (fun b o nb q => (sb.2 b (Nat.ne_of_lt (Heap.lt_size q))).trans (old b o nb q)) (Nat.le_refl _) xs.symm ((sb.2 x xs).trans me) hn
open PySem.W Builtin.ObjectAttr in
theorem raw_more {t0 dx : Addr} {m0 : Str → Option Value} {nl : List Str} (T : EC K C) (X : K.In hp) (hx : hp.get? x = some (excObj C t0 (some dx) .none)) (hno : findIn K (.ref C) f = some none)
    (hn : hp.Ns1 dx m0) (hw : Within m0 nl) (hz : nl.length ≤ 1000)
    (hq : ∀ h' tk', (∀ b o, b ≠ dx → hp.get? b = some o → h'.get? b = some o) → h'.Ns1 dx (fun y => if y = f then some v else m0 y) → R (.ok (.ret .none)) ⟨h', g, d, tk', os⟩) :
    codeAny (model prog w) A (.call (.builtin "object.__setattr__") ⟨[.ref x, .str f tk, v], []⟩) R ⟨hp, g, d, t, os⟩ := by
  obtain ⟨oD, _, _, hD, _, _⟩ := hn.count hw
  refine osa_openX (od := some oD) PySem.F.store_Exception X ⟨hx, rfl, rfl, hD⟩ T.ovr (NoAttr.taker hno) fun b => ?_
  obtain ⟨cd, hc, hd⟩ := any_some T.xf.hdC
  refine wpAny_bind (wpAny_pure (wpAny_bind (wpAny_bind (wpAny_loadPart hx (wpAny_bind ((looks_clsIn X hc).here ?_))))))
  rw [hd]
  refine wpAny_pure (a := some dx) ?_
  exact PySem.OEX.store_in_old hn hw hz fun h' tk' hn' sb => hq h' tk' (fun b o nb q => (sb.2 b nb).trans q) hn'
end
section
variable {X : Cx} {pins : List (Addr × Obj)} {σ : L2.St} {H : Hp} {s : Shared} {a C dx : Addr} {f : Str} {y : V} {u : Value} {fs : List (Str × V)}
variable {Q : Unit → Shared → Prop} {E : Value → Shared → Prop} {A : Around}
theorem set_first (T : EC X.K C) (I : Inv X pins σ H s) (e : H a = some (exo a C none)) (hno : PySem.W.findIn X.K (.ref C) f = some none) (ry : RelV y u)
    (h : ∀ dx s', H dx = none → dx ≠ a → Inv X pins σ (upd (upd H a (exo a C (some dx))) dx (exd dx [(f, y)])) s' → Q () s') :
    wpAny (model X.prog X.w) A (setAttr (.ref a) f u) Q E s := by
  obtain ⟨t1, ho⟩ := exo_at I.hok e
  obtain ⟨hp, g, d, t, os⟩ := s
  refine PySem.W.set_plain I.kIn (ox := PySem.W.excObj C t1 none .none) (od := none) ⟨ho, rfl, rfl, trivial⟩ T.sa ?_
  refine raw_first T I.kIn ho hno fun h' tk' dx k dn dne hx hn => ?_
  have nd : H dx = none := I.hok.fresh dn
  -- the heap behind the store, but for the new dict: there the exception has been written; then the dict is laid
  obtain ⟨G, g1, g2⟩ := restrict h' fun b => decide (b ≠ dx)
  have gk : ∀ b, b ≠ dx → G.get? b = h'.get? b := fun b nb => g1 b (decide_eq_true nb)
  have gd : G.get? dx = none := g2 dx (by simp)
  have ga : G.get? a = some (PySem.W.excObj C t1 (some dx) .none) := (gk a dne.symm).trans hx
  have J : Inv X pins σ (upd H a (exo a C (some dx))) ⟨G, g, d, tk', os⟩ :=
    I.write (t' := tk') (x := a) (e := a) (by rw [e]; exact True.intro) (.inl rfl)
      (fun b o nb q => (gk b (Nat.ne_of_lt (Nat.lt_of_lt_of_le (Heap.lt_size q) dn))).trans (k b o nb q)) ⟨_, ga⟩ (exo_ok ga)
  have below : ∀ b o, G.get? b = some o → h'.get? b = some o := fun b o q => by
    by_cases nb : b = dx
    · rw [nb, gd] at q
      cases q
    · exact (gk b nb).symm.trans q
  exact h dx _ nd dne (J.laidN (t' := tk') below gd (by rw [upd_ne dne]; exact nd) (exd_ok hn (relO_put (fs := []) ry fun _ => True.intro)))
theorem set_more (T : EC X.K C) (I : Inv X pins σ H s) (e : H a = some (exo a C (some dx))) (ed : H dx = some (exd dx fs)) (hl : fs.length ≤ 900)
    (hno : PySem.W.findIn X.K (.ref C) f = some none) (ry : RelV y u) (h : ∀ s', Inv X pins σ (upd H dx (exd dx ((f, y) :: fs))) s' → Q () s') :
    wpAny (model X.prog X.w) A (setAttr (.ref a) f u) Q E s := by
  obtain ⟨t1, ho⟩ := exo_at I.hok e
  obtain ⟨mA, hns, rel⟩ := exd_at I.hok ed
  have hw := within_of rel
  obtain ⟨hp, g, d, t, os⟩ := s
  obtain ⟨oD, _, _, hD, _, _⟩ := hns.count hw
  refine PySem.W.set_plain I.kIn (ox := PySem.W.excObj C t1 (some dx) .none) (od := some oD) ⟨ho, rfl, rfl, hD⟩ T.sa ?_
  refine raw_more T I.kIn ho hno hns hw (by rw [List.length_map]; omega) fun h' tk' k hn => ?_
  have there : ∃ o, h'.get? dx = some o := by
    obtain ⟨o, _, _, q, _⟩ := hn
    exact ⟨o, q⟩
  exact h _ (I.write (t' := tk') (x := dx) (e := dx) (by rw [ed]; exact True.intro) (.inl rfl) k there (exd_ok hn (relO_put ry rel)))
end
/-- self.f = e, self an error that is being made -/
def tEst (K : PySem.W.Frag) (f : Str) (to te : TE) : TS := fun D σ H => te σ H fun y H1 => to σ H1 fun x H2 =>
  ∃ a C : Addr, x = .ref a ∧ EC K C ∧ PySem.W.findIn K (.ref C) f = some none ∧
    ((H2 a = some (exo a C none) ∧ ∀ dx, H2 dx = none → dx ≠ a → D.nx σ (upd (upd H2 a (exo a C (some dx))) dx (exd dx [(f, y)]))) ∨
      ∃ (dx : Addr) (fs : List (Str × V)), H2 a = some (exo a C (some dx)) ∧ H2 dx = some (exd dx fs) ∧ fs.length ≤ 900 ∧ D.nx σ (upd H2 dx (exd dx ((f, y) :: fs))))
theorem ps_est {X : Cx} {o e : Expr} {to te : TE} {f : Str} {p' pos : Pos} (ho : PE X o to) (he : PE X e te)
    (hs : swapsWith e (some (.Attribute o f p')) pos.line X.env = pure false := by rfl) : PS X (.Assign [.Attribute o f p'] e pos) (tEst X.K f to te) := by
  refine ⟨fun pins s σ H D I h => plainObj_wpAny_Assign_Attribute (thn (he.run pins s σ H _ I h) fun v s1 hh => ?_) hs⟩
  obtain ⟨y, H1, I1, r1, q1⟩ := hh
  refine thn (ho.run pins s1 σ H1 _ I1 q1) fun u s2 hh2 => ?_
  obtain ⟨x, H2, I2, r2, a, C, ex, T, hno, q⟩ := hh2
  subst ex
  obtain rfl : u = Value.ref a := r2
  rcases q with ⟨ea, q⟩ | ⟨dx, fs, ea, ed, hl, q⟩
  · exact set_first T I2 ea hno r1 fun dx s' n ne J => ⟨σ, _, J, q dx n ne⟩
  · exact set_more T I2 ea ed hl hno r1 fun s' J => ⟨σ, _, J, q⟩
end Say

set_option Elab.async false
set_option linter.all false
set_option maxRecDepth 100000
set_option maxHeartbeats 4000000
namespace Say
open PySem PySem.Spec PyProof.Rows L2
/-! ### 3. C(..), C's own __init__ keeping sp: raised, or held as a value -/
section
variable {X : Cx} {CX : CXT} {k : Nat} {C fI : Addr} {fd : FuncData} {ps : List Str} {sp : Sp} {ds : List Value} {dvs : List V}
variable {x : Str} {e : Expr} {es : List Expr} {ta : TA} {p pos : Pos}
/-- the class's __init__ -/
structure EI (K : PySem.W.Frag) (C fI : Addr) : Prop where
  at_ : PySem.W.findIn K (.ref C) "__init__" = some (some (.ref fI))
  fn : PySem.W.typeIn K (.ref fI) = some (.type "function")
theorem run_ex {pins : List (Addr × Obj)} {σ : L2.St} {H : Hp} {s : Shared} {us : List Value} {vs : List V} {P : Addr → Hp → Prop} {Qv : Value → Shared → Prop}
    (T : EC X.K C) (J : EI X.K C fI) (F : FnOk X.prog X.w X.K X.mg X.base CX k fI fd ps sp) (hr : Room (k + 1) X.A) (hb : Binds X.K fd ps ds) (hd : Vals dvs ds)
    (hx : Passes CX X (fun _ _ _ => False)) (I : Inv X pins σ H s) (r : Vals vs us) (hz : vs.length ≤ 1000)
    (hq : ∀ a, H a = none → sp (.ref a :: (vs ++ dvs)) (upd H a (exo a C none)) (fun v H2 => v = .non ∧ P a H2) (fun _ _ _ => False))
    (go : ∀ (hp2 : Heap) (a : Addr) (u : Value) (s' : Shared), (∀ b o, s.heap.get? b = some o → hp2.get? b = some o) → s.heap.objs.size ≤ a → H a = none →
      Inv X pins σ (upd H a (exo a C none)) { s with heap := hp2 } →
      CE X.stack X.prog X.w (upd H a (exo a C none)) { s with heap := hp2 } (fun v H2 => v = .non ∧ P a H2) u s' → u = .none ∧ Qv (.ref a) s') :
    wpAny (model X.prog X.w) X.A (call (.ref C) us) Qv X.xe s := by
  obtain ⟨nm, N, qn, bs, bm, hdct, sn, sub, ab, col, dd, k0, k1, k2, k3, k5, hC, hT⟩ := PySem.W.excInit_of I.kIn T.ini
  obtain ⟨hp, g, dr, tk, os⟩ := s
  have far : hp.objs.size ≤ hp.objs.size + 1 := Nat.le_succ _
  have hn : H (hp.objs.size + 1) = none := I.hok.fresh far
  have q := hq _ hn
  have kk : ∀ b o, hp.get? b = some o → ((hp.push (PySem.W.kdv_tup us)).push (PySem.HandSPX.excO C hp.objs.size)).get? b = some o :=
    fun b o z => Heap.get?_push_of_some _ (Heap.get?_push_of_some _ z)
  have here : ((hp.push (PySem.W.kdv_tup us)).push (PySem.HandSPX.excO C hp.objs.size)).get? (hp.objs.size + 1) = some (PySem.HandSPX.excO C hp.objs.size) := by heap_get
  have I2 : Inv X pins σ (upd H (hp.objs.size + 1) (exo (hp.objs.size + 1) C none)) ⟨(hp.push (PySem.W.kdv_tup us)).push (PySem.HandSPX.excO C hp.objs.size), g, dr, tk, os⟩ :=
    I.laid (t' := tk) kk far (exo_ok here)
  have r2 : Vals (V.ref (hp.objs.size + 1) :: (vs ++ dvs)) (Value.ref (hp.objs.size + 1) :: (us ++ ds)) := .cons rfl (r.append hd)
  have len : (Value.ref (hp.objs.size + 1) :: us ++ ds).length = ps.length := by
    have z := r2.length
    rw [F.len _ _ _ _ q] at z
    exact z.symm
  have few : us.length ≤ sizeLine := by
    rw [← Paired.length r, sizeLine_eq]
    omega
  refine wpAny_call (PySem.HandSPX.call_own PySem.F.excBase_Exception hT hC (PySem.W.looks_findIn I.kIn J.at_) (fun self => PySem.W.bind_fn I.kIn self J.fn) few
    (codeAny_mono (F.run _ X.stack _ _ ⟨Value.ref (hp.objs.size + 1) :: us, []⟩ (Value.ref (hp.objs.size + 1) :: (us ++ ds)) _ _ (fun _ _ _ => False)
      (hr.make C us []) (I2.env0.make C us []) (hb _ (Value.ref (hp.objs.size + 1) :: us) I2.kIn len) r2 q) fun rs s' z => ?_))
  cases rs with
  | error er => exact hx pins σ _ _ er s' I2 z
  | ok fl =>
    cases fl with
    | ret u => exact go _ _ u s' kk far hn I2 z
    | _ => exact z.elim
/-- raise C(e, ..): what is asked; the error's own dict stands behind it -/
def tMkE (C : Addr) (sp : Sp) (dvs : List V) (ta : TA) : L2.St → Hp → XK → Prop := fun σ H Q => ta σ H fun vs H1 => vs.length ≤ 1000 ∧
  ∀ a, H1 a = none → sp (.ref a :: (vs ++ dvs)) (upd H1 a (exo a C none))
    (fun v H2 => v = .non ∧ ∃ (d : Addr) (fs : List (Str × V)), H2 a = some (exo a C (some d)) ∧ H2 d = some (exd d fs) ∧ H1 d = none ∧ Q (.ref C) (some d) (upd (del H2 a) d (.xd fs)))
    (fun _ _ _ => False)
theorem pmk_e (T : EC X.K C) (J : EI X.K C fI) (F : FnOk X.prog X.w X.K X.mg X.base CX k fI fd ps sp) (hr : Room (k + 1) X.A) (hb : Binds X.K fd ps ds) (hd : Vals dvs ds)
    (hx : Passes CX X (fun _ _ _ => False)) (hm : X.mg x = some (.ref C)) (ha : PA X (e :: es) ta) (hg : Gl X x := by rfl)
    (hdb : (x == ("__debug__" : Str)) = false := by decide) (he : starEach (e :: es) X.env = (false, eval e X.env) :: starEach es X.env := by rfl)
    (hpl : (backTo pos (starEach es X.env)).any (·.1) = false := by rfl) : PMk X (.Call (.Name x p) (e :: es) [] pos) (tMkE C sp dvs ta) := by
  intro pins s σ H Q I h
  refine wpAny_Call_Name_kw (ld_glob I hg hm ?_ hdb)
  refine PySem.W.callWith_K (h₀ := X.base) I.ok.mod.kin T.kp (thn (ha.run pos pins s σ H _ I h) fun us s1 hh => ?_) he hpl
  obtain ⟨vs, H1, I1, r1, hz, q⟩ := hh
  refine ⟨I1.kIn, ?_⟩
  obtain ⟨hp, g, dr, tk, os⟩ := s1
  refine run_ex T J F hr hb hd hx I1 r1 hz q fun hp2 a u s' kk far hn I2 z => ?_
  obtain ⟨v, H2, os2, bare2, un2, hok2, rv, ev, d, fs, ea, ed, hd1, q2⟩ := z
  subst ev
  obtain ⟨h2, g2, d2, t2, o2⟩ := s'
  exact ⟨rv, mk_end (raises_own T.xf.exC T.ty) I1 far kk un2 hok2 os2 bare2 ea ed hd1 q2⟩
/-- C(e, ..) as a value -/
def tExv (C : Addr) (sp : Sp) (dvs : List V) (ta : TA) : TE := fun σ H Q => ta σ H fun vs H1 => vs.length ≤ 1000 ∧
  ∀ a, H1 a = none → sp (.ref a :: (vs ++ dvs)) (upd H1 a (exo a C none)) (fun v H2 => v = .non ∧ Q (.ref a) H2) (fun _ _ _ => False)
theorem pe_exv (T : EC X.K C) (J : EI X.K C fI) (F : FnOk X.prog X.w X.K X.mg X.base CX k fI fd ps sp) (hr : Room (k + 1) X.A) (hb : Binds X.K fd ps ds) (hd : Vals dvs ds)
    (hx : Passes CX X (fun _ _ _ => False)) (hm : X.mg x = some (.ref C)) (ha : PA X (e :: es) ta) (hg : Gl X x := by rfl)
    (hdb : (x == ("__debug__" : Str)) = false := by decide) (he : starEach (e :: es) X.env = (false, eval e X.env) :: starEach es X.env := by rfl)
    (hpl : (backTo pos (starEach es X.env)).any (·.1) = false := by rfl) : PE X (.Call (.Name x p) (e :: es) [] pos) (tExv C sp dvs ta) := by
  refine ⟨fun pins s σ H Q I h => ?_⟩
  refine wpAny_Call_Name_kw (ld_glob I hg hm ?_ hdb)
  refine PySem.W.callWith_K (h₀ := X.base) I.ok.mod.kin T.kp (thn (ha.run pos pins s σ H _ I h) fun us s1 hh => ?_) he hpl
  obtain ⟨vs, H1, I1, r1, hz, q⟩ := hh
  refine ⟨I1.kIn, ?_⟩
  refine run_ex T J F hr hb hd hx I1 r1 hz q fun hp2 a u s' kk far hn I2 z => ?_
  obtain ⟨v, H2, I3, rv, ev, q2⟩ := I2.after z
  subst ev
  exact ⟨rv, ⟨V.ref a, H2, I3, rfl, q2⟩⟩
/-- o.f, o an error that is held as a value -/
def tExf (K : PySem.W.Frag) (f : Str) (te : TE) : TE := fun σ H Q => te σ H fun x H1 => ∃ (a C dd : Addr) (fs : List (Str × V)) (v : V),
  x = .ref a ∧ XfC K C ∧ PySem.W.findIn K (.ref C) f = some none ∧ H1 a = some (exo a C (some dd)) ∧ H1 dd = some (exd dd fs) ∧ fs.lookup f = some v ∧ Q v H1
theorem pe_exf {f : Str} {te : TE} (he : PE X e te) (hb : attributeBase e f X.env (eval e X.env) = eval e X.env := by rfl) : PE X (.Attribute e f pos) (tExf X.K f te) := by
  refine ⟨fun pins s σ H Q I h => attr_of hb (thn (he.run pins s σ H _ I h) fun u s1 hh => ?_)⟩
  obtain ⟨x, H1, I1, rx, a, C, dd, fs, v, ex, T, hno, ea, ed, l, q⟩ := hh
  subst ex
  obtain rfl : u = Value.ref a := rx
  obtain ⟨t1, ho⟩ := exo_at I1.hok ea
  obtain ⟨mA, hns, rel⟩ := exd_at I1.hok ed
  obtain ⟨od, hD, hl⟩ := lookIn_ns hns
  obtain ⟨u, hu, ru⟩ := RelO.some_of (v := v) (o := mA f) (by rw [← l]; exact rel f)
  have W : PySem.W.InstAt s1.heap a (PySem.W.excObj C t1 (some dd) .none) C (some od) := ⟨ho, rfl, rfl, hD⟩
  exact HandSPX.exc_get I1.kIn W T.ga T.gg T.exC (PySem.W.findObj_own T.hdC hno rfl (by rw [hl, hu])) (handed_of ru) ⟨v, H1, I1.tok _, ru, q⟩
end
end Say

set_option Elab.async false
set_option linter.all false
set_option maxRecDepth 100000
set_option maxHeartbeats 4000000
namespace Say
open PySem PySem.Spec PyProof.Rows L2
/-! ### 4. raise C() of a class without an __init__ of its own -/
theorem pmk_e0 {X : Cx} {C : Addr} {x : Str} {p pos : Pos} (q : PySem.W.excIn X.K C bmE "Exception.__new__" = true) (T : EC X.K C) (hm : X.mg x = some (.ref C)) (hg : Gl X x := by rfl)
    (hdb : (x == ("__debug__" : Str)) = false := by decide) : PMk X (.Call (.Name x p) [] [] pos) (fun _ H Q => Q (.ref C) none H) := by
  intro pins s σ H Q I h
  refine wpAny_Call_Name_kw (ld_glob I hg hm ?_ hdb)
  refine PySem.W.callWith_K0 I.kIn T.kp ?_
  obtain ⟨bm, N, nm, qn, bs, hdct, sn, sub, ab, col, dd, k0, k1, k2, k3, k5, mN, hC, hN, hni, T2⟩ := exc_obj I.kIn q
  refine wpAny_call_exc_subT PySem.F.excBase_Exception T2 hC hN hni (fun h' e hm' => ?_) (Nat.zero_le _)
  exact mk_of I hm' (raises_own T.xf.exC T.ty) h (I.hok.gone hm'.new)

/-! ### 5. try with any number of clauses, each with a name or without -/
/-- a clause: its class, its name's slot, its suite -/
structure Cl where
  c : Value
  i : Option Nat
  ts : Addr → Value → Option Addr → TS
/-- behind a suite its name is unbound -/
def Cl.off (q : Cl) (σ : L2.St) : L2.St := match q.i with
  | none => σ
  | some i => σ.set i none
def Cl.on (q : Cl) (a : Addr) (σ : L2.St) : L2.St := match q.i with
  | none => σ
  | some i => σ.set i (some (.ref a))
def Cl.ends (q : Cl) (D : Ends) : Ends :=
  { nx := fun σ H => D.nx (q.off σ) H, rt := D.rt, bk := fun σ H => D.bk (q.off σ) H, ct := fun σ H => D.ct (q.off σ) H }
/-- what the clauses wish, from the first on -/
def wCl (K : PySem.W.Frag) (Wout : WX) (D : Ends) : List Cl → WX
  | [] => Wout
  | q :: r => fun cls d σ H => ∃ b, PySem.W.exmOne K cls q.c = some b ∧ (b = true → ∀ a, H a = none → q.ts a cls d (q.ends D) (q.on a σ) H) ∧ (b = false → wCl K Wout D r cls d σ H)
inductive ClOk (X : Cx) : List ExceptHandler → List Cl → Prop
  | nil : ClOk X [] []
  | bare {x : Str} {c : Value} {ts : Addr → Value → Option Addr → TS} {b₀ : Stmt} {suite : List Stmt} {np p2 : Pos} {hs : List ExceptHandler} {l : List Cl} (hc : Names X x c)
      (go : ∀ (a : Addr) (oe : Obj) (cls : Value) (d : Option Addr) (pn : List (Addr × Obj)), Zc cls d oe → (∃ vs, oe.data = .fields vs) →
        PSs (X.suite a ((a, oe) :: pn)) (b₀ :: suite) (ts a cls d)) (r : ClOk X hs l) :
      ClOk X (.ExceptHandler (some (.Name x np)) none (b₀ :: suite) p2 :: hs) (⟨c, none, ts⟩ :: l)
  | as {x n : Str} {i : Nat} {c : Value} {ts : Addr → Value → Option Addr → TS} {b₀ : Stmt} {suite : List Stmt} {np p2 : Pos} {hs : List ExceptHandler} {l : List Cl} (hc : Names X x c)
      (hi : X.N[i]? = some n) (hl : X.env.kindOf n = some .local)
      (go : ∀ (a : Addr) (oe : Obj) (cls : Value) (d : Option Addr) (pn : List (Addr × Obj)), Zc cls d oe → (∃ vs, oe.data = .fields vs) →
        PSs (X.suite a ((a, oe) :: pn)) (b₀ :: suite) (ts a cls d)) (r : ClOk X hs l) :
      ClOk X (.ExceptHandler (some (.Name x np)) (some n) (b₀ :: suite) p2 :: hs) (⟨c, some i, ts⟩ :: l)
section
variable {X : Cx} {pins : List (Addr × Obj)} {D : Ends} {Wout : WX}
/-- what is known of an error that has landed at this def's try -/
structure Landed (X : Cx) (pins : List (Addr × Obj)) (B : Heap) (a : Addr) (cls : Value) (d : Option Addr) (σ : L2.St) (H : Hp) (sI s0 : Shared) (h3 : Heap) : Prop where
  inv : Inv X pins σ H sI
  nb : ∀ b o, sI.heap.get? b = some o → b ∉ frs X.stack → B.get? b = some o
  up : sI.heap.UpToSlots h3
  fl : HandSPX.FlyingZ B (X.env :: X.outer) a (Zc cls d) h3
  na : H a = none
  os : s0.os = sI.os
  ag : AllBare s0.gens
variable {B : Heap} {a : Addr} {cls : Value} {d : Option Addr} {σ : L2.St} {H : Hp} {sI s0 : Shared} {h3 : Heap}
theorem Landed.apart (L : Landed X pins B a cls d σ H sI s0 h3) (hf : X.env.frame = some X.env.locals) {h : Heap} {o : Obj} {vs : Array Value} (ff : h.FunFrames B (X.env :: X.outer)) (e : h.get? a = some o) (dd : o.data = .fields vs) :
    a ≠ X.env.locals ∧ a ∉ X.fs := by
  have out : a ∉ frs (X.env :: X.outer) := fun hm => by
    obtain ⟨_, o2, e2, no⟩ := ff.mem hm
    rw [e] at e2
    cases e2
    exact no _ dd
  refine ⟨fun z => out (List.mem_filterMap.mpr ⟨X.env, List.mem_cons_self, by rw [hf, z]⟩), fun hm => ?_⟩
  obtain ⟨v, hv, q⟩ := List.mem_filterMap.mp hm
  exact out (List.mem_filterMap.mpr ⟨v, List.mem_cons_of_mem _ hv, q⟩)
/-- the suites' own ground -/
theorem Landed.ground (L : Landed X pins B a cls d σ H sI s0 h3) (hf : X.env.frame = some X.env.locals) :
    ∃ oe, Zc cls d oe ∧ (∃ vs, oe.data = .fields vs) ∧ h3.get? a = some oe ∧ X.K.In h3 ∧ Inv (X.suite a ((a, oe) :: (X.pn ++ pins))) [] σ H { s0 with heap := h3 } := by
  obtain ⟨oe, vs, he, hz, hd⟩ := L.fl.there
  obtain ⟨nL, nF⟩ := L.apart hf L.fl.2.2.1 he hd
  have J : Inv X pins σ H { s0 with heap := h3 } := L.inv.landed L.nb L.fl.1 L.up L.os L.ag
  exact ⟨oe, hz, ⟨vs, hd⟩, he, J.kIn, J.suite he hd L.na nL nF⟩
theorem clauses_run (hs : X.stack = X.env :: X.outer) (hf : X.env.frame = some X.env.locals) (hN : X.N.Nodup) (tk : Takes X Wout) (L : Landed X pins B a cls d σ H sI s0 h3)
    {hds : List ExceptHandler} {l : List Cl} (ok : ClOk X hds l) : wCl X.K Wout D l cls d σ H →
      wpAny (model X.prog X.w) X.A (handleBy (.ref a) X.env hds) (SP X pins D) X.xe { s0 with heap := h3 } := by
  obtain ⟨oe3, hz3, hd3, he3, K3, S3⟩ := L.ground hf
  have LT : PySem.W.Looks (model X.prog X.w) h3 (typeOf (.ref a)) cls := fun A Q E s k q => wpAny_typeOf_ref (k _ _ he3) (by rw [hz3.1]; exact q)
  -- the class's name is read with the error at hand
  have named : ∀ {x : Str} {c : Value} {np : Pos} {Q : Value → Shared → Prop} {E : Value → Shared → Prop}, Names X x c → Q c { s0 with heap := h3 } →
      wpAny (model X.prog X.w) (X.A.mark (some (.ref a))) (eval (.Name x np) X.env) Q E { s0 with heap := h3 } := fun {x c np Q E} hc q => by
    obtain ⟨hg, hdbg, hm | ⟨hm, hv, hnn⟩⟩ := hc
    · exact ld_glob (X := X.suite a ((a, oe3) :: (X.pn ++ pins))) S3 hg hm q hdbg
    · exact ld_blt (X := X.suite a ((a, oe3) :: (X.pn ++ pins))) S3 hg hm hv q hnn hdbg
  -- a suite starts where the error has landed once more
  have again : ∀ {h4 : Heap}, HandSPX.FlyingZ B (X.env :: X.outer) a (Zc cls d) h4 → h3.UpToSlots h4 → Landed X pins B a cls d σ H sI s0 h4 :=
    fun fl up => ⟨L.inv, L.nb, L.up.trans up, fl, L.na, L.os, L.ag⟩
  induction ok with
  | nil =>
    intro w
    refine wpAny_handleBy_nil ?_
    obtain ⟨_, _, _, oe, vs, T, oT, ts, he, hz, hd, h1, hr⟩ := id L.fl
    unfold PySem.passOn
    refine wpAny_bind (wpAny_field he hd h1 ?_)
    rw [if_neg (show ¬ ((Value.ref T == Value.none) = true) from by simp)]
    have fin : wpAny (model X.prog X.w) X.A (setFlight (.ref a) X.env.frame) (fun _ s4 => wpAny (model X.prog X.w) X.A (throw (.ref a) : Sem Flow) (SP X pins D) X.xe s4) X.xe { s0 with heap := h3 } := by
      rw [hf]
      refine HandSPX.setFlight_upZ L.fl fun h4 held up4 => wpAny_throw (tk _ _ ?_)
      exact ⟨a, B, sI, pins, σ, H, cls, d, rfl, L.inv, L.nb, L.up.trans up4, .inr (.inr (by rw [hs]; exact held)), L.na, L.os, L.ag, w⟩
    first
      | exact wpAny_bind (wpAny_pure (wpAny_bind fin))
      | exact wpAny_bind fin
  | @bare x c ts b₀ suite np p2 hs2 l2 hc go r ih =>
    rintro ⟨b, hb1, yes, no⟩
    refine wpAny_handleBy_cons (codeAny_handlers_test ?_) (by intro q; cases q)
    refine named hc ((PySem.W.exm_one (M := model X.prog X.w) K3 LT hb1).here ?_)
    cases b with
    | false => exact ih (no rfl)
    | true =>
      refine codeAny_handlers_suite (HandSPX.lands_againZ L.fl fun h4 fl4 up4 => ?_)
      obtain ⟨oe4, hz4, hd4, he4, _, S4⟩ := (again fl4 up4).ground hf
      refine wpAny_mono ((go a oe4 cls d _ hz4 hd4).run [] _ _ H _ S4 (yes rfl a L.na)) (fun f s6 e6 => ?_) (fun _ _ z => z.elim)
      cases f with
      | ret u =>
        obtain ⟨v6, σ6, H6, S6, r6, q6⟩ := e6
        exact ⟨_, _, _, S6.unsuite L.inv.ok, r6, q6⟩
      | _ =>
        obtain ⟨σ6, H6, S6, q6⟩ := e6
        exact ⟨_, _, S6.unsuite L.inv.ok, q6⟩
  | @as x n i c ts b₀ suite np p2 hs2 l2 hc hi hl go r ih =>
    rintro ⟨b, hb1, yes, no⟩
    refine wpAny_handleBy_cons (codeAny_handlers_test ?_) (by intro q; cases q)
    refine named hc ((PySem.W.exm_one (M := model X.prog X.w) K3 LT hb1).here ?_)
    cases b with
    | false => exact ih (no rfl)
    | true =>
      refine codeAny_handlers_suite_as (HandSPX.lands_againZ L.fl fun h4 fl4 up4 => ?_)
      obtain ⟨oe4, hz4, hd4, he4, _, S4⟩ := (again fl4 up4).ground hf
      refine store_ok (X := X.suite a ((a, oe4) :: (X.pn ++ pins))) (v := .ref a) S4 hN hi (.inl hl) rfl (fun s5 S5 => ?_) (.inr hl)
      refine wpAny_mono ((go a oe4 cls d _ hz4 hd4).run [] s5 _ H _ S5 (yes rfl a L.na)) (fun f s6 e6 => ?_) (fun _ _ z => z.elim)
      cases f with
      | ret u =>
        obtain ⟨v6, σ6, H6, S6, r6, q6⟩ := e6
        exact gone_ok (S6.unsuite L.inv.ok) hN hi hl fun s7 J7 => ⟨_, _, _, J7, r6, q6⟩
      | _ =>
        obtain ⟨σ6, H6, S6, q6⟩ := e6
        exact gone_ok (S6.unsuite L.inv.ok) hN hi hl fun s7 J7 => ⟨_, _, J7, q6⟩
end
end Say

set_option Elab.async false
set_option linter.all false
set_option maxRecDepth 100000
set_option maxHeartbeats 4000000
namespace Say
open PySem PySem.Spec PyProof.Rows L2
section
variable {X : Cx} {Wout : WX}
/-- the body is read under the wish of the clauses -/
def tTry (tb : WX → TS) (Wout : WX) (l : List Cl) (K : PySem.W.Frag) : TS := fun D σ H => tb (wCl K Wout D l) D σ H
theorem ps_try_cl {body : List Stmt} {h₀ : ExceptHandler} {hds : List ExceptHandler} {l : List Cl} {pos : Pos} {tb : WX → TS} (hs : X.stack = X.env :: X.outer) (hf : X.env.frame = some X.env.locals)
    (hN : X.N.Nodup) (tk : Takes X Wout) (ok : ClOk X (h₀ :: hds) l)
    (hb : ∀ (W : WX) (pn : List (Addr × Obj)) (xe : Value → Shared → Prop), Takes (X.tr pn xe) W → PassesOwn (model X.prog X.w) X.A X.env xe → PSs (X.tr pn xe) body (tb W)) :
    PS X (.Try body (h₀ :: hds) [] [] pos) (tTry tb Wout l X.K) := by
  refine ⟨fun pins s σ H D I h => wpAny_Try_except ?_⟩
  have fr : X.A.frames = some (X.env :: X.outer) := by rw [I.ok.frames, hs]
  -- what leaves the body is noted, and meets the clauses
  let met : Value → Shared → Prop := fun e s₁ => wpAny (model X.prog X.w) X.A (noteFrame e X.env) (fun _ s₂ =>
    wpAny (model X.prog X.w) X.A (setFlight e none) (fun _ s₃ => wpAny (model X.prog X.w) X.A (handleBy e X.env (h₀ :: hds)) (SP X pins D) X.xe s₃) X.xe s₂) X.xe s₁
  have takes : Takes (X.tr (X.pn ++ pins) met) (wCl X.K Wout D l) := fun u s' xx => by
    obtain ⟨a, B, sI, pins2, σ2, H2, cls, d, rfl, J, nb, up, sky, na, os, ag, w⟩ := xx
    show wpAny (model X.prog X.w) X.A (noteFrame (.ref a) X.env) _ _ _
    refine Sky.land Zc.steady fr hf (by rw [← hs]; exact sky) fun h3 fl3 up3 => ?_
    exact clauses_run hs hf hN tk ⟨J.ofTry I.ok, nb, up.trans up3, fl3, na, os, ag⟩ ok w
  refine wpAny_mono ((hb _ (X.pn ++ pins) met takes PassesOwn.looking).run [] s σ H D (I.toTry _) h) (fun f s1 e1 => ?_) (fun _ _ z => z)
  cases f with
  | next =>
    obtain ⟨σ1, H1, J, q⟩ := e1
    exact wpAny_execs_nil ⟨σ1, H1, J.ofTry I.ok, q⟩
  | ret u =>
    obtain ⟨v, σ1, H1, J, r, q⟩ := e1
    exact ⟨v, σ1, H1, J.ofTry I.ok, r, q⟩
  | _ =>
    obtain ⟨σ1, H1, J, q⟩ := e1
    exact ⟨σ1, H1, J.ofTry I.ok, q⟩
end
end Say

set_option Elab.async false
set_option linter.all false
set_option maxRecDepth 100000
set_option maxHeartbeats 4000000
namespace Say
open PySem PySem.Spec PyProof.Rows L2
section
variable {M : Model} {prog : Program} {w : World} {A : Around} {E : Value → Shared → Prop} {R : Result → Shared → Prop} {h : Heap} {g : Array GenState} {d : Drawn} {t : Nat} {os : OsState}
variable {nm q : Str} {C N : Addr} {bs bm : List Value} {hdct : Bool} {sn : List Str} {sub : List Value} {ab : Bool} {col : Option Bool} {dd : Option Addr} {k0 k1 k2 k3 k5 : Option Value}
abbrev ClsAt (h : Heap) (nm q : Str) (C N : Addr) (bs bm : List Value) (hdct : Bool) (sn : List Str) (sub : List Value) (ab : Bool) (col : Option Bool) (dd : Option Addr) (k0 k1 k2 k3 k5 : Option Value) : Prop :=
  h.get? C = some (excClassObj nm q C N bs bm hdct sn sub ab col dd k0 k1 k2 k3 k5 "Exception.__new__") ∧ ∀ X : String, bm.contains (.type X) = bmE.contains (.type X)
theorem kw_check {n : Str} {v : Value} {Q : Unit → Shared → Prop} (hC : ClsAt h nm q C N bs bm hdct sn sub ab col dd k0 k1 k2 k3 k5) (hq : Q () ⟨h, g, d, t, os⟩) :
    wpAny M A (checkBuiltinCall "Exception.__new__" ⟨[.ref C], [(n, v)]⟩) Q E ⟨h, g, d, t, os⟩ := by
  have F := PySem.F.excBase_Exception
  have has : (Value.ref C :: bm).contains (.type "Exception") = true := by rw [List.contains_cons, hC.2, F.hasB, Bool.or_true]
  have star := F.noStar
  have here := hC.1
  simp only [checkBuiltinCall, F.newKind, F.newSplit, F.newRow]
  repeat (first
    | refine wpAny_loadPart_at here ?_
    | (refine wpAny_isSubtype_exc here ?_; rw [has])
    | refine wpAny_staticBase_exc here ?_
    | refine wpAny_madeBy_exc here ?_
    | simp only [bne_self_eq_false, Bool.false_eq_true, if_false]
    | wp_step)
  exact hq
theorem kw_new {n : Str} {v : Value} (hC : ClsAt h nm q C N bs bm hdct sn sub ab col dd k0 k1 k2 k3 k5)
    (hq : R (.ok (.ret (.ref (h.objs.size + 1)))) ⟨(h.push (PySem.W.kdv_tup [])).push (PySem.HandSPX.excO C h.objs.size), g, d, t, os⟩) :
    codeAny (model prog w) A (.builtin "Exception.__new__" ⟨[.ref C], [(n, v)]⟩) R ⟨h, g, d, t, os⟩ := by
  have F := PySem.F.excBase_Exception
  have ends := F.ends
  have here := hC.1
  have isE : (Value.ref C :: bm).contains (.type "Exception") = true := by rw [List.contains_cons, hC.2, F.hasB, Bool.or_true]
  have noA : (Value.ref C :: bm).contains (.type "AttributeError") = false := by
    rw [List.contains_cons, hC.2, F.noAttr]
    rfl
  have noN : (Value.ref C :: bm).contains (.type "NameError") = false := by
    rw [List.contains_cons, hC.2, F.noName]
    rfl
  have fits : ([] : List Value).length ≤ sizeLine := Nat.zero_le _
  refine codeAny_builtinAt F.entry ?_
  unfold Builtin.«BaseException.__new__»
  refine PySem.wpAt_bind ?_
  show PySem.wpAt _ _ _ (stack >>= _) _ _ _
  refine PySem.wpAt_bind (PySem.wpAt_stack fun p below => PySem.wpAt_of_wpAny ?_)
  wp_walk
  refine PySem.wpAt_of_wpAny ?_
  rw [F.owner]
  repeat (first
    | with_reducible refine wpAny_madeHere_exc F.canon here ?_
    | with_reducible refine wpAny_loadPart_at here ?_
    | (with_reducible refine wpAny_isSubtype_exc here ?_; first | rw [isE] | rw [noA] | rw [noN])
    | wp_step)
  show R _ _
  rw [Heap.size_push]
  exact hq
theorem kw_type {fI : Addr} {n : Str} {v : Value} {Q : Fin → Shared → Prop} (hC : ClsAt h nm q C N bs bm hdct sn sub ab col dd k0 k1 k2 k3 k5)
    (hi : PySem.W.Looks (model prog w) h (typeLookup (.ref C) "__init__") (some (.ref fI))) (hb : ∀ self, PySem.W.Looks (model prog w) h (bindSpecial (.ref fI) self) (.ref fI, [self]))
    (hq : codeAny (model prog w) A (.call (.ref fI) ⟨[.ref (h.objs.size + 1)], [(n, v)]⟩)
      (fun r s' => match r with | .ok (.ret u) => u = .none ∧ Q (.done (.ret (.ref (h.objs.size + 1)))) s' | .ok _ => False | .error e => E e s')
      ⟨(h.push (PySem.W.kdv_tup [])).push (PySem.HandSPX.excO C h.objs.size), g, d, t, os⟩) :
    wpAny (model prog w) A (Builtin.«type.__call__» ⟨[.ref C], [(n, v)]⟩) Q E ⟨h, g, d, t, os⟩ := by
  have F := PySem.F.excBase_Exception
  have here := hC.1
  repeat (first
    | with_reducible refine wpAny_loadPart_at here ?_
    | with_reducible refine wpAny_madeBy_exc here ?_
    | wp_step)
  refine codeAny_call_builtin_code (Code.quiet_builtin _ F.quiet) (kw_check hC (kw_new hC ?_))
  show wpAny _ _ _ _ _ _
  have k : ∀ b o, h.get? b = some o → ((h.push (PySem.W.kdv_tup [])).push (PySem.HandSPX.excO C h.objs.size)).get? b = some o :=
    fun b o z => Heap.get?_push_of_some _ (Heap.get?_push_of_some _ z)
  have here2 := k _ _ here
  have made : ((h.push (PySem.W.kdv_tup [])).push (PySem.HandSPX.excO C h.objs.size)).get? (h.objs.size + 1) = some (PySem.HandSPX.excO C h.objs.size) := by heap_get
  have own : (Value.ref C :: bm).contains (.ref C) = true := by simp
  unfold isInstance
  repeat (first
    | with_reducible refine wpAny_loadPart_at made ?_
    | (with_reducible refine wpAny_isSubtype_exc here2 ?_; rw [own])
    | wp_step)
  show wpAny _ _ (typeLookup (.ref C) _) _ _ _
  refine (hi.keeps k).at ?_
  refine wpAny_holding (wpAny_bind (((hb (.ref (h.objs.size + 1))).keeps k).at ?_))
  refine wpAny_bind (wpAny_call (codeAny_mono hq fun r s' z => ?_))
  cases r with
  | error e => exact z
  | ok fl =>
    cases fl with
    | ret u =>
      obtain ⟨rfl, z⟩ := z
      first
        | exact wpAny_pure (wpAny_pure z)
        | (wp_walk; exact z)
    | _ => exact z.elim
theorem kw_call {fI : Addr} {n : Str} {v : Value} (hC : ClsAt h nm q C N bs bm hdct sn sub ab col dd k0 k1 k2 k3 k5)
    (hi : PySem.W.Looks (model prog w) h (typeLookup (.ref C) "__init__") (some (.ref fI))) (hb : ∀ self, PySem.W.Looks (model prog w) h (bindSpecial (.ref fI) self) (.ref fI, [self]))
    (hq : codeAny (model prog w) (A.under (.builtin "type.__call__" ⟨[.ref C], [(n, v)]⟩)) (.call (.ref fI) ⟨[.ref (h.objs.size + 1)], [(n, v)]⟩) (PySem.W.InitBack (h.objs.size + 1) R)
      ⟨(h.push (PySem.W.kdv_tup [])).push (PySem.HandSPX.excO C h.objs.size), g, d, t, os⟩) :
    codeAny (model prog w) A (.call (.ref C) ⟨[], [(n, v)]⟩) R ⟨h, g, d, t, os⟩ := by
  have f1 := tc_lookup
  have f2 := tc_bind (.ref C)
  have here := hC.1
  have isTy : (⟨h, g, d, t, os⟩ : Shared).TypeIs (.ref C) "type" := ⟨_, here, rfl⟩
  refine codeAny_of_tree ?_
  show wpAny _ _ (callAny (.ref C) _) _ _ _
  repeat (any_goals (first
    | assumption
    | with_reducible refine wpAny_loadPart_at here ?_
    | wp_step))
  refine ⟨rfl, ?_⟩
  refine codeAny_call_builtin_at (Code.quiet_builtin _ (by decide +kernel)) entry_typeCall (wpAny_check_type_call_sub here (kw_type hC hi hb ?_))
  refine codeAny_mono hq fun r s' z => ?_
  cases r with
  | error e => exact z
  | ok fl => cases fl <;> exact z
end
section
variable {X : Cx} {CX : CXT} {k : Nat} {C fI : Addr} {fd : FuncData} {ps : List Str} {sp : Sp} {x n : Str} {e : Expr} {te : TE} {p pos kpos : Pos}
theorem vals1x {a : Addr} {y : V} {u : Value} (h : RelV (.ref a) (.ref a)) (r : RelV y u) : Vals [.ref a, y] [.ref a, u] := .cons h (.cons r .nil)
/-- C(n=e) as a value -/
def tExk (C : Addr) (sp : Sp) (te : TE) : TE := fun σ H Q => te σ H fun y H1 =>
  ∀ a, H1 a = none → sp [.ref a, y] (upd H1 a (exo a C none)) (fun v H2 => v = .non ∧ Q (.ref a) H2) (fun _ _ _ => False)
theorem pe_exk (T : EC X.K C) (J : EI X.K C fI) (F : FnOk X.prog X.w X.K X.mg X.base CX k fI fd ps sp) (hr : Room (k + 1) X.A)
    (hb : ∀ (s : Shared) (v u : Value), X.K.In s.heap → BindsTo s fd ⟨[v], [(n, u)]⟩ (ps.zip [v, u])) (hx : Passes CX X (fun _ _ _ => False)) (hm : X.mg x = some (.ref C)) (he : PE X e te)
    (hg : Gl X x := by rfl) (hdb : (x == ("__debug__" : Str)) = false := by decide)
    (hall : (backToKw pos (keywordEach [⟨some n, e, kpos⟩] X.env)).all (·.1.isSome) = true := by rfl) (hks : (backToKw pos (keywordEach [⟨some n, e, kpos⟩] X.env)).filterMap (·.1) = [n] := by rfl)
    (hpl : ((backTo pos (starEach [] X.env)).any (·.1) || (backToKw pos (keywordEach [⟨some n, e, kpos⟩] X.env)).any (·.1.isNone)) = false := by rfl) :
    PE X (.Call (.Name x p) [] [⟨some n, e, kpos⟩] pos) (tExk C sp te) := by
  refine ⟨fun pins s σ H Q I h => ?_⟩
  refine wpAny_Call_Name_kw (ld_glob I hg hm ?_ hdb)
  refine PySem.W.callWith_KW0 (h₀ := X.base) I.ok.mod.kin T.kp hall ?_ hpl
  show wpAny _ _ (evalAll ((do let v ← eval e X.env; standAt pos; pure v) :: [])) _ _ s
  refine wpAny_evalAll_cons (wpAny_bind (thn (he.run pins s σ H _ I h) fun u s1 hh => wpAny_bind (wpAny_standAt (wpAny_pure (wpAny_evalAll_nil ?_)))))
  obtain ⟨y, H1, I1, ru, q⟩ := hh
  refine ⟨I1.kIn, ?_⟩
  rw [hks]
  show wpAny _ _ (call (.ref C) [] [(n, u)]) _ _ _
  obtain ⟨nm, N, qn, bs, bm, hdct, sn, sub, ab, col, dd, k0, k1, k2, k3, k5, hC, hT⟩ := PySem.W.excInit_of I1.kIn T.ini
  obtain ⟨hp, g, dr, tk, os⟩ := s1
  have far : hp.objs.size ≤ hp.objs.size + 1 := Nat.le_succ _
  have q2 := q _ (I1.hok.fresh far)
  have kk : ∀ b o, hp.get? b = some o → ((hp.push (PySem.W.kdv_tup [])).push (PySem.HandSPX.excO C hp.objs.size)).get? b = some o :=
    fun b o z => Heap.get?_push_of_some _ (Heap.get?_push_of_some _ z)
  have here : ((hp.push (PySem.W.kdv_tup [])).push (PySem.HandSPX.excO C hp.objs.size)).get? (hp.objs.size + 1) = some (PySem.HandSPX.excO C hp.objs.size) := by heap_get
  have I2 : Inv X pins σ (upd H1 (hp.objs.size + 1) (exo (hp.objs.size + 1) C none)) ⟨(hp.push (PySem.W.kdv_tup [])).push (PySem.HandSPX.excO C hp.objs.size), g, dr, tk, os⟩ :=
    I1.laid (t' := tk) kk far (exo_ok here)
  refine wpAny_call (kw_call ⟨hC, hT⟩ (PySem.W.looks_findIn I1.kIn J.at_) (fun self => PySem.W.bind_fn I1.kIn self J.fn)
    (codeAny_mono (F.run _ X.stack _ _ ⟨[Value.ref (hp.objs.size + 1)], [(n, u)]⟩ [Value.ref (hp.objs.size + 1), u] _ _ (fun _ _ _ => False)
      (hr.make C [] [(n, u)]) (I2.env0.make C [] [(n, u)]) (hb _ _ _ I2.kIn) (vals1x rfl ru) q2) fun rs s' z => ?_))
  cases rs with
  | error er => exact hx pins σ _ _ er s' I2 z
  | ok fl =>
    cases fl with
    | ret u2 =>
      obtain ⟨v, H2, I3, rv, ev, q3⟩ := I2.after z
      subst ev
      exact ⟨rv, ⟨V.ref (hp.objs.size + 1), H2, I3, rfl, q3⟩⟩
    | _ => exact z.elim
end
end Say

set_option Elab.async false
set_option linter.all false
set_option maxRecDepth 100000
set_option maxHeartbeats 0
namespace K00
open PySem PySem.Spec PyProof.Rows L2 Say
def top (i : Nat) : Stmt := PySem.Challenge.pw_saymakers_k00_whole_errors_and_what_they.main.body.getD i (.Pass ⟨0, 0, 0, 0⟩)
abbrev R : PySem.W.OpenRow := PySem.W.OpenLaw.row PySem.Challenge.rw_saymakers_k00_whole_errors_and_what_they
/-- the errors in the order of their numbers -/
def names : List Str := ["InvalidText", "InvalidSaying", "InvalidSheet", "InvalidFilling", "InvalidMakers", "InvalidRules", "InvalidBook", "InvalidRow", "InvalidPremises", "InvalidProof",
  "InvalidFacts", "InvalidLot", "InvalidWorld", "InvalidSigned", "InvalidIndex", "Refused", "InvalidSize", "NoMaker", "NoRule", "NotCalm", "InvalidCommand"]
def nm (i : Nat) : Str := names.getD i ""
def helpers : List Str := ["_law_box", "_law_take", "_law_pick", "_law_raise", "_law_caught", "_law_is_base"]
def looseNames : List Str := "SayError" :: (names ++ helpers)
def C (K : PySem.W.Frag) (i : Nat) : Addr := He.ga K (nm i)
def CS (K : PySem.W.Frag) : Addr := He.ga K "SayError"
def ini (K : PySem.W.Frag) (i : Nat) : Addr := He.ma K (C K i) "__init__"
/-- the fields of the error of this number -/
def flds (i : Nat) : List Str := if i ≤ 15 then ["at"] else if i = 16 then ["word"] else if i = 17 then ["name"] else if i = 18 then ["number"] else if i = 19 then ["right", "left", "row"] else []
def clsB (K : PySem.W.Frag) (i : Nat) : Bool := He.eqO (PySem.W.nsIn K mainGlobals (nm i)) (some (some (.ref (C K i)))) && (ecB K (C K i) && (flds i).all fun f => noB K (C K i) f)
def iniB (K : PySem.W.Frag) (i : Nat) : Bool := He.eqO (PySem.W.findIn K (.ref (C K i)) "__init__") (some (some (.ref (ini K i)))) && decide (PySem.W.typeIn K (.ref (ini K i)) = some (.type "function"))
def exmB (K : PySem.W.Frag) (i : Nat) : Bool := ((List.range 21).all fun j => decide (PySem.W.exmOne K (.ref (C K i)) (.ref (C K j)) = some (decide (i = j)))) && decide (PySem.W.exmOne K (.ref (C K i)) (.ref (CS K)) = some true)
def ex (K : PySem.W.Frag) : Bool := (List.range 21).all (clsB K) && ((List.range 20).all (iniB K) && ((List.range 21).all (exmB K) && PySem.W.excIn K (C K 20) bmE "Exception.__new__"))
def dI (i : Nat) (q : Str) : He.DefD := ⟨(nm i, some "__init__"), "__init__", q, defArgs (inClass (top (i + 2)) 0), defBody (inClass (top (i + 2)) 0), defScope (inClass (top (i + 2)) 0), [], []⟩
def quals : List Str := ["InvalidText.__init__", "InvalidSaying.__init__", "InvalidSheet.__init__", "InvalidFilling.__init__", "InvalidMakers.__init__", "InvalidRules.__init__", "InvalidBook.__init__", "InvalidRow.__init__", "InvalidPremises.__init__", "InvalidProof.__init__",
  "InvalidFacts.__init__", "InvalidLot.__init__", "InvalidWorld.__init__", "InvalidSigned.__init__", "InvalidIndex.__init__", "Refused.__init__", "InvalidSize.__init__", "NoMaker.__init__", "NoRule.__init__", "NotCalm.__init__"]
def dF (x : Str) (i : Nat) : He.DefD := ⟨(x, none), x, x, defArgs (top i), defBody (top i), defScope (top i), [], []⟩
def fn : List He.DefD := (List.range 20).map (fun i => dI i (quals.getD i "")) ++ [dF "_law_box" 24, dF "_law_take" 25, dF "_law_pick" 26, dF "_law_raise" 27, dF "_law_caught" 28, dF "_law_is_base" 29, dF "law" 30]
def fa : List He.Fa := [.glo "SayError", .glo "_law_box", .glo "_law_take", .glo "_law_pick", .glo "_law_raise", .glo "_law_caught", .glo "_law_is_base", .glo "law", .free "len", .free "abs", .free "int", .free "range"]
abbrev hk : PySem.W.Hook := He.hookX 4 fa fn [] [] ex
def ob (s : PySem.W.SharedT) : He.AlX := He.obsX 4 fa fn [] [] ex (HandSHeadRun.getT s)
theorem ob_eq (s : PySem.W.SharedT) : ob s = hk.obs s.abs := He.obsX_eq (HandSHeadRun.getT_eq s)
theorem run (w : World) : HandSHeadRun.RunEq R (PySem.W.view R.prog [30]) hk ob 6000 looseNames w := by
  intro os
  kernel_rfl
end K00

set_option Elab.async false
set_option linter.all false
set_option maxRecDepth 100000
set_option maxHeartbeats 4000000
namespace K00
open PySem PySem.Spec PyProof.Rows L2 Say
abbrev FnP (K : PySem.W.Frag) (x : Str) (i : Nat) (f : Addr) (fd : FuncData) : Prop := FunD K x x (defArgs (top i)) (defBody (top i)) (defScope (top i)) [] [] f fd
/-- the module's names that the helpers read are still the built-in ones -/
structure Bl (mg : Str → Option Value) : Prop where
  len : mg "len" = none
  abs : mg "abs" = none
  int : mg "int" = none
  range : mg "range" = none
/-- a source of draws: three whole numbers -/
def BoxAt (H : Hp) (p : Addr) : Prop := ∃ x y z : Int, H p = some (.lst [.int x, .int y, .int z])
def spBox (K : PySem.W.Frag) : Sp := fun vs H Q _ => ∃ (a : Addr) (ns : List Int) (k : Nat), vs = [.ref a, .int k] ∧ SqL K H a (ns.map V.int) ∧ k ≤ 1000 ∧
  ∀ H' p, Same H H' → H p = none → BoxAt H' p → Q (.ref p) H'
/-- a draw: the box alone changes -/
def spTake : Sp := fun vs H Q _ => ∃ (p : Addr) (m : Int), vs = [.ref p, .int m] ∧ BoxAt H p ∧ 0 < m ∧ m < 1073741824 ∧
  ∀ (H' : Hp) (r : Int), 0 ≤ r → r < m → BoxAt H' p → (∀ b, b ≠ p → H' b = H b) → Q (.int r) H'
def spPick (K : PySem.W.Frag) : Sp := fun vs H Q _ => ∃ (p q : Addr) (xs : List V), vs = [.ref p, .ref q] ∧ BoxAt H p ∧ p ≠ q ∧ SqL K H q xs ∧ 0 < xs.length ∧ xs.length ≤ 1000 ∧
  ∀ (H' : Hp) (v : V), v ∈ xs → BoxAt H' p → (∀ b, b ≠ p → H' b = H b) → Q v H'
section
variable {P : Program} {w : World} {K : PySem.W.Frag} {mg : Str → Option Value} {base : Heap} {f : Addr} {fd : FuncData}
theorem scTake : FnScope ["box", "many", "digit", "raw"] ["box", "many"] (defScope (top 25)) := ⟨rfl, rfl, rfl, by decide +kernel, rfl, by decide +kernel, by decide +kernel⟩
theorem ok_take (F : FnP K "_law_take" 25 f fd) (B : Bl mg) : FnOk P w K mg base CX0 2 f fd ["box", "many"] spTake := by
  refine F.ok scTake (fun vs H Q E h => ?_) (fun cdv A outer s H vs Q E hr h => ?_)
  · obtain ⟨p, m, rfl, _⟩ := h
    rfl
  · obtain ⟨p, m, rfl, ⟨x, y, z, hp⟩, m0, m1, k⟩ := h
    refine ⟨_, PSs.nox (pss_cons (ps_if (pt_cmpR op_gt (pe_ix ix_list (pv 0) pe_int (fun _ _ => rfl)) pe_int (nomark _))
        (pss_cons (ps_set (i := 2) scTake.nd rfl (Or.inl rfl) (pe_op op_mod (pe_callTy call_int1 (by rfl) B.int (by decide +kernel) (pa_cons (pe_ix ix_list (pv 0) pe_int (fun _ _ => rfl)) pa_nil)) (pv 1)))
          (pss_cons (ps_asg (pe_op op_fdiv (pe_ix ix_list (pv 0) pe_int (fun _ _ => rfl)) (pv 1)) (pg_sub (pv 0) pe_int set_list))
            (pss_one (ps_ret (pv 2))))) pss_nil)
      (pss_cons (ps_asg (pe_op op_add (pe_ix ix_list (pv 0) pe_int (fun _ _ => rfl)) pe_int) (pg_sub (pv 0) pe_int set_list))
        (pss_cons (ps_set (i := 3) scTake.nd rfl (Or.inl rfl) (pe_op op_mod (pe_callTy call_int1 (by rfl) B.int (by decide +kernel) (pa_cons
            (pe_op op_add (pe_op op_mul (pe_op op_add (pe_ix ix_list (pv 0) pe_int (fun _ _ => rfl)) (pe_op op_mul pe_int (pe_ix ix_list (pv 0) pe_int (fun _ _ => rfl)))) pe_int) pe_int) pa_nil)) pe_int))
          (pss_cons (ps_asg (pe_op op_add (pe_op op_mod (pe_callTy call_int1 (by rfl) B.int (by decide +kernel) (pa_cons (pe_op op_add (pe_op op_mul (pv 3) pe_int) pe_int) pa_nil)) pe_int) pe_int) (pg_sub (pv 0) pe_int set_list))
            (pss_one (ps_ret (pe_op op_mod (pe_callTy call_int1 (by rfl) B.int (by decide +kernel) (pa_cons
              (pe_op op_fdiv (pe_op op_add (pe_op op_mul (pv 3) pe_int) (pe_ix ix_list (pv 0) pe_int (fun _ _ => rfl))) pe_int) pa_nil)) (pv 1)))))))), ?_⟩
    have at0 : ∀ a b c : Int, atI [V.int a, V.int b, V.int c] 0 = some (V.int a) := fun _ _ _ => rfl
    refine ⟨_, rfl, p, _, _, _, rfl, rfl, SqL.of hp, rfl, _, _, rfl, rfl, _, rfl, ?_⟩
    refine ite2 (fun _ => ?_) (fun _ => ?_)
    · refine ⟨_, rfl, p, _, _, _, rfl, rfl, SqL.of hp, rfl, .inl ⟨_, rfl, _, rfl, _, _, rfl, rfl, m0, ?_⟩⟩
      refine ⟨_, rfl, p, _, _, _, rfl, rfl, SqL.of hp, rfl, _, rfl, _, _, rfl, rfl, ⟨m0, m1⟩, ?_⟩
      refine ⟨_, rfl, p, _, _, 0, rfl, rfl, hp, rfl, ?_⟩
      refine ⟨_, rfl, ?_⟩
      exact k _ _ (Int.emod_nonneg _ (by omega)) (Int.emod_lt_of_pos _ m0) ⟨_, _, _, upd_same⟩ (fun b nb => upd_ne nb)
    · refine ⟨_, rfl, p, _, _, _, rfl, rfl, SqL.of hp, rfl, _, _, rfl, rfl, ?_⟩
      refine ⟨_, rfl, p, _, _, 2, rfl, rfl, hp, rfl, ?_⟩
      refine ⟨_, rfl, p, _, _, _, rfl, rfl, SqL.of upd_same, rfl, _, rfl, p, _, _, _, rfl, rfl, SqL.of upd_same, rfl, _, _, rfl, rfl, .inl (by constructor <;> decide), _, _, rfl, rfl, _, _, rfl, rfl, .inr (by constructor <;> decide), _, _, rfl, rfl, ?_⟩
      refine .inl ⟨_, rfl, _, _, rfl, rfl, (by show (0 : Int) < 2147483563; decide), ?_⟩
      refine ⟨_, rfl, _, _, rfl, rfl, .inr (by constructor <;> decide), _, _, rfl, rfl, .inl ⟨_, rfl, _, _, rfl, rfl, (by show (0 : Int) < 2147483629; decide), _, _, rfl, rfl, ?_⟩⟩
      refine ⟨_, rfl, p, _, _, 1, rfl, rfl, upd_same, rfl, ?_⟩
      refine ⟨_, rfl, _, _, rfl, rfl, .inr (by constructor <;> decide), _, rfl, p, _, _, _, rfl, rfl, SqL.of upd_same, rfl, _, _, rfl, rfl, _, _, rfl, rfl, (by constructor <;> decide), ?_⟩
      refine .inl ⟨_, rfl, _, rfl, _, _, rfl, rfl, m0, ?_⟩
      exact k _ _ (Int.emod_nonneg _ (by omega)) (Int.emod_lt_of_pos _ m0) ⟨_, _, _, upd_same⟩ (fun b nb => by rw [upd_ne nb, upd_ne nb])
theorem sqL_eq {H H' : Hp} {q : Addr} {xs : List V} (e : H' q = H q) (h : SqL K H q xs) : SqL K H' q xs := by
  rcases h with (h | ⟨o, h⟩) | h
  · exact .inl (.inl (e.trans h))
  · exact .inl (.inr ⟨o, e.trans h⟩)
  · exact .inr h
theorem scPick : FnScope ["box", "some"] ["box", "some"] (defScope (top 26)) := ⟨rfl, rfl, rfl, by decide +kernel, rfl, by decide +kernel, by decide +kernel⟩
theorem ok_pick {fT : Addr} {fdT : FuncData} (F : FnP K "_law_pick" 26 f fd) (B : Bl mg) (FT : FnP K "_law_take" 25 fT fdT) (gT : mg "_law_take" = some (.ref fT)) :
    FnOk P w K mg base CX0 3 f fd ["box", "some"] (spPick K) := by
  have GT : FnOk P w K mg base CX0 2 fT fdT ["box", "many"] spTake := ok_take FT B
  have bT : Binds K fdT ["box", "many"] [] := FT.bindsN fun _ _ _ _ _ _ us hl => match us, hl with | [_, _], _ => rfl
  refine F.ok scPick (fun vs H Q E h => ?_) (fun cdv A outer s H vs Q E hr h => ?_)
  · obtain ⟨p, q, xs, rfl, _⟩ := h
    rfl
  · obtain ⟨p, q, xs, rfl, hB, npq, hS, l0, l1, k⟩ := h
    refine ⟨_, PSs.nox (pss_one (ps_ret (pe_ix ix_list (pv 1) (pe_call GT hr rfl gT FT.kp bT .nil pass0 (pa_cons (pv 0) (pa_cons (pe_callB call_len_seq (by rfl) B.len PySem.boot_len (pa_cons (pv 1) pa_nil)) pa_nil))) (fun _ _ => rfl)))), ?_⟩
    refine ⟨_, rfl, _, rfl, _, rfl, q, xs, rfl, .inl hS, p, (xs.length : Int), rfl, hB, by omega, by omega, fun H' r r0 r1 hB' e => ?_⟩
    obtain ⟨j, rfl⟩ : ∃ j : Nat, r = (j : Int) := ⟨r.toNat, (Int.toNat_of_nonneg r0).symm⟩
    have hj : j < xs.length := by omega
    exact ⟨q, xs, (j : Int), xs[j], rfl, rfl, sqL_eq (e q npq.symm) hS, atI_nat (List.getElem?_eq_getElem hj), k H' _ (List.getElem_mem hj) hB' e⟩
/-- what _law_box hands back: its reading, whatever the cell is -/
theorem box_end (K : PySem.W.Frag) (n : Nat) (c : Int) (a : Addr) (H : Hp) (Q : VK) (k : ∀ H' p, Same H H' → H p = none → BoxAt H' p → Q (.ref p) H') :
    tRet (tLst (tCons (tOp (rIxL K) (tLst (tCons (tC (.int 0)) (tCons (tVar 2) tNil))) (tCB (fun xs H Q => (∃ i, xs = [.int i] ∧ Q (.int i) H) ∨ ∃ k, xs = [.bl k] ∧ Q (.int (if k then 1 else 0)) H)
        (tCons (tOp (rI0 fun i j => .bl (decide (j ≤ i))) (tVar 2) (tOp (rI CPow fun i j => .int (i ^ j.toNat)) (tC (.int 10)) (tC (.int 18)))) tNil)))
      (tCons (tOp (rI0 fun i j => .int (i + j)) (tOp (rI (fun _ j => 0 < j) fun i j => .int (i % j)) (tCB (fun xs H Q => (∃ i, xs = [.int i] ∧ Q (.int i) H) ∨ ∃ k, xs = [.bl k] ∧ Q (.int (if k then 1 else 0)) H)
        (tCons (tOp (rI0 fun i j => .int (i + j)) (tOp (rI CMul fun i j => .int (i * j)) (tOp (rI (fun _ j => 0 < j) fun i j => .int (i % j)) (tCB (fun xs H Q => (∃ i, xs = [.int i] ∧ Q (.int i) H) ∨ ∃ k, xs = [.bl k] ∧ Q (.int (if k then 1 else 0)) H)
          (tCons (tVar 2) tNil)) (tC (.int 2147483629))) (tC (.int 38377))) (tOp (rI CMul fun i j => .int (i * j)) (tC (.int 71129)) (tVar 1))) tNil)) (tC (.int 2147483629))) (tC (.int 1)))
        (tCons (tC (.int 0)) tNil)))) { nx := fun _ H' => Q .non H', rt := Q } [some (.ref a), some (.int n), some (.int c)] H := by
  have pick : ∀ b : Bool, ∃ z, atI [V.int 0, V.int c] (if b then 1 else 0) = some (V.int z) := fun b => by
    cases b
    · exact ⟨0, rfl⟩
    · exact ⟨c, rfl⟩
  obtain ⟨z, hz⟩ := pick (decide ((10 : Int) ^ (18 : Int).toNat ≤ c))
  refine ⟨_, rfl, (by show 2 ≤ sizeLine; decide), fun l hl => ?_⟩
  refine ⟨_, rfl, _, _, rfl, rfl, (by refine ⟨by decide, by decide, by decide⟩), _, _, rfl, rfl, .inr ⟨_, rfl, l, _, _, _, rfl, rfl, SqL.of upd_same, hz, ?_⟩⟩
  refine ⟨_, rfl, .inl ⟨_, rfl, _, _, rfl, rfl, (by show (0 : Int) < 2147483629; decide), _, _, rfl, rfl, .inr (by constructor <;> decide), _, rfl, _, _, rfl, rfl, .inl (by constructor <;> decide), _, _, rfl, rfl, ?_⟩⟩
  refine .inl ⟨_, rfl, _, _, rfl, rfl, (by show (0 : Int) < 2147483629; decide), _, _, rfl, rfl, (by show 3 ≤ sizeLine; decide), fun p hp => ?_⟩
  have hpH : H p = none := by
    by_cases e : p = l
    · rw [e]
      exact hl
    · rw [upd_ne e] at hp
      exact hp
  refine k _ p (fun b o q => ?_) hpH ⟨_, _, _, upd_same⟩
  rw [upd_ne (ne_of_none q hpH), upd_ne (ne_of_none q hl)]
  exact q
theorem scBox : FnScope ["script", "k", "cell"] ["script", "k"] (defScope (top 24)) := ⟨rfl, rfl, rfl, by decide +kernel, rfl, by decide +kernel, by decide +kernel⟩
theorem ok_box (F : FnP K "_law_box" 24 f fd) (B : Bl mg) : FnOk P w K mg base CX0 2 f fd ["script", "k"] (spBox K) := by
  refine F.ok scBox (fun vs H Q E h => ?_) (fun cdv A outer s H vs Q E hr h => ?_)
  · obtain ⟨a, ns, n, rfl, _⟩ := h
    rfl
  · obtain ⟨a, ns, n, rfl, hS, n1, k⟩ := h
    refine ⟨_, PSs.nox (pss_cons (ps_set (i := 2) scBox.nd rfl (Or.inl rfl) (pe_op op_add (pe_op op_mul pe_int (pv 1)) pe_int))
      (pss_cons (ps_if (pt_cmpR op_lt (pv 1) (pe_callB call_len_seq (by rfl) B.len PySem.boot_len (pa_cons (pv 0) pa_nil)) (nomark _))
          (pss_one (ps_set (i := 2) scBox.nd rfl (Or.inl rfl) (pe_callB call_abs (by rfl) B.abs (by decide +kernel) (pa_cons (pe_ix ix_list (pv 0) (pv 1) (fun _ _ => rfl)) pa_nil))))
          (pss_one (ps_if (pt_cmpR op_gt (pe_callB call_len_seq (by rfl) B.len PySem.boot_len (pa_cons (pv 0) pa_nil)) pe_int (nomark _))
            (pss_one (ps_set (i := 2) scBox.nd rfl (Or.inl rfl) (pe_op op_add (pv 2) (pe_op op_mul (pe_op op_mod (pe_callTy call_int1 (by rfl) B.int (by decide +kernel) (pa_cons
              (pe_callB call_abs (by rfl) B.abs (by decide +kernel) (pa_cons (pe_ix ix_list (pv 0) (pe_op op_mod (pe_callTy call_int1 (by rfl) B.int (by decide +kernel) (pa_cons (pv 1) pa_nil))
                (pe_callB call_len_seq (by rfl) B.len PySem.boot_len (pa_cons (pv 0) pa_nil))) (fun _ _ => rfl)) pa_nil)) pa_nil)) pe_int) pe_int)))) pss_nil)))
      (pss_one (ps_ret (pe_lst (pa_cons (pe_ix ix_list (pe_lst (pa_cons pe_int (pa_cons (pv 2) pa_nil))) (pe_callTy call_int1 (by rfl) B.int (by decide +kernel) (pa_cons
          (pe_cmpR op_ge (pv 2) (pe_op op_pow pe_int pe_int) (nomark _)) pa_nil)) (fun _ _ => rfl))
        (pa_cons (pe_op op_add (pe_op op_mod (pe_callTy call_int1 (by rfl) B.int (by decide +kernel) (pa_cons (pe_op op_add (pe_op op_mul (pe_op op_mod (pe_callTy call_int1 (by rfl) B.int (by decide +kernel) (pa_cons (pv 2) pa_nil)) pe_int) pe_int)
          (pe_op op_mul pe_int (pv 1))) pa_nil)) pe_int) pe_int) (pa_cons pe_int pa_nil)))))))), ?_⟩
    have get : ∀ {j : Nat}, j < ns.length → ∃ z, atI (ns.map V.int) (j : Int) = some (V.int z) := fun {j} hj =>
      ⟨ns[j], atI_nat (by rw [List.getElem?_map, List.getElem?_eq_getElem hj]; rfl)⟩
    have ll : ((ns.map V.int).length : Int) = (ns.length : Int) := by rw [List.length_map]
    refine ⟨_, rfl, _, _, rfl, rfl, .inl (by constructor <;> decide), _, _, rfl, rfl, ?_⟩
    refine ⟨_, rfl, _, rfl, a, _, rfl, .inl hS, _, _, rfl, rfl, _, rfl, ?_⟩
    refine ite2 (fun c => ?_) (fun c => ?_)
    · have hn : n < ns.length := by
        have z := of_decide_eq_true c
        omega
      obtain ⟨z, hz⟩ := get hn
      refine ⟨_, rfl, _, rfl, a, _, _, _, rfl, rfl, hS, hz, _, rfl, ?_⟩
      exact box_end K n _ a H Q k
    · refine ⟨_, rfl, a, _, rfl, .inl hS, _, _, rfl, rfl, _, rfl, ?_⟩
      refine ite2 (fun c2 => ?_) (fun _ => ?_)
      · have z := of_decide_eq_true c2
        have l0 : 0 < (ns.length : Int) := by omega
        have r0 : 0 ≤ (n : Int) % (ns.length : Int) := Int.emod_nonneg _ (by omega)
        have r1 : (n : Int) % (ns.length : Int) < (ns.length : Int) := Int.emod_lt_of_pos _ l0
        obtain ⟨j, ej⟩ : ∃ j : Nat, (n : Int) % (ns.length : Int) = (j : Int) := ⟨_, (Int.toNat_of_nonneg r0).symm⟩
        obtain ⟨u, hu⟩ := get (j := j) (by omega)
        rw [← ej, ← ll] at hu
        refine ⟨_, rfl, _, rfl, _, rfl, .inl ⟨_, rfl, _, rfl, a, _, rfl, .inl hS, _, _, rfl, rfl, by omega, a, _, _, _, rfl, rfl, hS, hu, _, rfl, .inl ⟨_, rfl, _, _, rfl, rfl, (by show (0 : Int) < 2147483629; decide), _, _, rfl, rfl, .inr (by constructor <;> decide), _, _, rfl, rfl, ?_⟩⟩⟩
        exact box_end K n _ a H Q k
      · exact box_end K n _ a H Q k
end
end K00

set_option Elab.async false
set_option linter.all false
set_option maxRecDepth 100000
set_option maxHeartbeats 4000000
namespace K00
open PySem PySem.Spec PyProof.Rows L2 Say
/-! ### the errors' own __init__ -/
/-- what an __init__ leaves of the error at a: its dict at dx holds these fields; nothing else that was tracked is touched -/
structure IniEnd (C a dx : Addr) (fs : List (Str × V)) (H H' : Hp) : Prop where
  obj : H' a = some (exo a C (some dx))
  dic : H' dx = some (exd dx fs)
  old : ∀ b, b ≠ a → b ≠ dx → H' b = H b
def spIni (f : Str) (C : Addr) : Sp := fun vs H Q _ => ∃ (a : Addr) (y : V), vs = [.ref a, y] ∧ H a = some (exo a C none) ∧
  ∀ (dx : Addr) (H' : Hp), H dx = none → dx ≠ a → IniEnd C a dx [(f, y)] H H' → Q .non H'
def spIni3 (C : Addr) : Sp := fun vs H Q _ => ∃ (a : Addr) (x y z : V), vs = [.ref a, x, y, z] ∧ H a = some (exo a C none) ∧
  ∀ (dx : Addr) (H' : Hp), H dx = none → dx ≠ a → IniEnd C a dx [("row", z), ("left", y), ("right", x)] H H' → Q .non H'
theorem ini_end {C a dx : Addr} {f : Str} {y : V} {H : Hp} (ne : dx ≠ a) : IniEnd C a dx [(f, y)] H (upd (upd H a (exo a C (some dx))) dx (exd dx [(f, y)])) :=
  ⟨by rw [upd_ne ne.symm, upd_same], upd_same, fun b na nd => by rw [upd_ne nd, upd_ne na]⟩
section
variable {P : Program} {w : World} {K : PySem.W.Frag} {mg : Str → Option Value} {base : Heap} {f : Addr} {fd : FuncData}
abbrev FnI (K : PySem.W.Frag) (q : Str) (i : Nat) (f : Addr) (fd : FuncData) : Prop := FunD K "__init__" q (defArgs (inClass (top i) 0)) (defBody (inClass (top i) 0)) (defScope (inClass (top i) 0)) [] [] f fd

theorem scI0 : FnScope ["self", "at"] ["self", "at"] (defScope (inClass (top 2) 0)) := ⟨rfl, rfl, rfl, by decide +kernel, rfl, by decide +kernel, by decide +kernel⟩
theorem ok_ini0 {C : Addr} (F : FnI K "InvalidText.__init__" 2 f fd) (T : EC K C) (no : PySem.W.findIn K (.ref C) "at" = some none) : FnOk P w K mg base CX0 1 f fd ["self", "at"] (spIni "at" C) := by
  refine F.ok scI0 (fun vs H Q E h => ?_) (fun cdv A outer s H vs Q E hr h => ?_)
  · obtain ⟨a, y, rfl, _⟩ := h
    rfl
  · obtain ⟨a, y, rfl, ha, k⟩ := h
    exact ⟨_, PSs.nox (pss_one (ps_est (pv 0) (pv 1))), _, rfl, _, rfl, a, C, rfl, T, no, .inl ⟨ha, fun dx n ne => k dx _ n ne (ini_end ne)⟩⟩

theorem scI1 : FnScope ["self", "at"] ["self", "at"] (defScope (inClass (top 3) 0)) := ⟨rfl, rfl, rfl, by decide +kernel, rfl, by decide +kernel, by decide +kernel⟩
theorem ok_ini1 {C : Addr} (F : FnI K "InvalidSaying.__init__" 3 f fd) (T : EC K C) (no : PySem.W.findIn K (.ref C) "at" = some none) : FnOk P w K mg base CX0 1 f fd ["self", "at"] (spIni "at" C) := by
  refine F.ok scI1 (fun vs H Q E h => ?_) (fun cdv A outer s H vs Q E hr h => ?_)
  · obtain ⟨a, y, rfl, _⟩ := h
    rfl
  · obtain ⟨a, y, rfl, ha, k⟩ := h
    exact ⟨_, PSs.nox (pss_one (ps_est (pv 0) (pv 1))), _, rfl, _, rfl, a, C, rfl, T, no, .inl ⟨ha, fun dx n ne => k dx _ n ne (ini_end ne)⟩⟩

theorem scI2 : FnScope ["self", "at"] ["self", "at"] (defScope (inClass (top 4) 0)) := ⟨rfl, rfl, rfl, by decide +kernel, rfl, by decide +kernel, by decide +kernel⟩
theorem ok_ini2 {C : Addr} (F : FnI K "InvalidSheet.__init__" 4 f fd) (T : EC K C) (no : PySem.W.findIn K (.ref C) "at" = some none) : FnOk P w K mg base CX0 1 f fd ["self", "at"] (spIni "at" C) := by
  refine F.ok scI2 (fun vs H Q E h => ?_) (fun cdv A outer s H vs Q E hr h => ?_)
  · obtain ⟨a, y, rfl, _⟩ := h
    rfl
  · obtain ⟨a, y, rfl, ha, k⟩ := h
    exact ⟨_, PSs.nox (pss_one (ps_est (pv 0) (pv 1))), _, rfl, _, rfl, a, C, rfl, T, no, .inl ⟨ha, fun dx n ne => k dx _ n ne (ini_end ne)⟩⟩

theorem scI3 : FnScope ["self", "at"] ["self", "at"] (defScope (inClass (top 5) 0)) := ⟨rfl, rfl, rfl, by decide +kernel, rfl, by decide +kernel, by decide +kernel⟩
theorem ok_ini3 {C : Addr} (F : FnI K "InvalidFilling.__init__" 5 f fd) (T : EC K C) (no : PySem.W.findIn K (.ref C) "at" = some none) : FnOk P w K mg base CX0 1 f fd ["self", "at"] (spIni "at" C) := by
  refine F.ok scI3 (fun vs H Q E h => ?_) (fun cdv A outer s H vs Q E hr h => ?_)
  · obtain ⟨a, y, rfl, _⟩ := h
    rfl
  · obtain ⟨a, y, rfl, ha, k⟩ := h
    exact ⟨_, PSs.nox (pss_one (ps_est (pv 0) (pv 1))), _, rfl, _, rfl, a, C, rfl, T, no, .inl ⟨ha, fun dx n ne => k dx _ n ne (ini_end ne)⟩⟩

theorem scI4 : FnScope ["self", "at"] ["self", "at"] (defScope (inClass (top 6) 0)) := ⟨rfl, rfl, rfl, by decide +kernel, rfl, by decide +kernel, by decide +kernel⟩
theorem ok_ini4 {C : Addr} (F : FnI K "InvalidMakers.__init__" 6 f fd) (T : EC K C) (no : PySem.W.findIn K (.ref C) "at" = some none) : FnOk P w K mg base CX0 1 f fd ["self", "at"] (spIni "at" C) := by
  refine F.ok scI4 (fun vs H Q E h => ?_) (fun cdv A outer s H vs Q E hr h => ?_)
  · obtain ⟨a, y, rfl, _⟩ := h
    rfl
  · obtain ⟨a, y, rfl, ha, k⟩ := h
    exact ⟨_, PSs.nox (pss_one (ps_est (pv 0) (pv 1))), _, rfl, _, rfl, a, C, rfl, T, no, .inl ⟨ha, fun dx n ne => k dx _ n ne (ini_end ne)⟩⟩

theorem scI5 : FnScope ["self", "at"] ["self", "at"] (defScope (inClass (top 7) 0)) := ⟨rfl, rfl, rfl, by decide +kernel, rfl, by decide +kernel, by decide +kernel⟩
theorem ok_ini5 {C : Addr} (F : FnI K "InvalidRules.__init__" 7 f fd) (T : EC K C) (no : PySem.W.findIn K (.ref C) "at" = some none) : FnOk P w K mg base CX0 1 f fd ["self", "at"] (spIni "at" C) := by
  refine F.ok scI5 (fun vs H Q E h => ?_) (fun cdv A outer s H vs Q E hr h => ?_)
  · obtain ⟨a, y, rfl, _⟩ := h
    rfl
  · obtain ⟨a, y, rfl, ha, k⟩ := h
    exact ⟨_, PSs.nox (pss_one (ps_est (pv 0) (pv 1))), _, rfl, _, rfl, a, C, rfl, T, no, .inl ⟨ha, fun dx n ne => k dx _ n ne (ini_end ne)⟩⟩

theorem scI6 : FnScope ["self", "at"] ["self", "at"] (defScope (inClass (top 8) 0)) := ⟨rfl, rfl, rfl, by decide +kernel, rfl, by decide +kernel, by decide +kernel⟩
theorem ok_ini6 {C : Addr} (F : FnI K "InvalidBook.__init__" 8 f fd) (T : EC K C) (no : PySem.W.findIn K (.ref C) "at" = some none) : FnOk P w K mg base CX0 1 f fd ["self", "at"] (spIni "at" C) := by
  refine F.ok scI6 (fun vs H Q E h => ?_) (fun cdv A outer s H vs Q E hr h => ?_)
  · obtain ⟨a, y, rfl, _⟩ := h
    rfl
  · obtain ⟨a, y, rfl, ha, k⟩ := h
    exact ⟨_, PSs.nox (pss_one (ps_est (pv 0) (pv 1))), _, rfl, _, rfl, a, C, rfl, T, no, .inl ⟨ha, fun dx n ne => k dx _ n ne (ini_end ne)⟩⟩

theorem scI7 : FnScope ["self", "at"] ["self", "at"] (defScope (inClass (top 9) 0)) := ⟨rfl, rfl, rfl, by decide +kernel, rfl, by decide +kernel, by decide +kernel⟩
theorem ok_ini7 {C : Addr} (F : FnI K "InvalidRow.__init__" 9 f fd) (T : EC K C) (no : PySem.W.findIn K (.ref C) "at" = some none) : FnOk P w K mg base CX0 1 f fd ["self", "at"] (spIni "at" C) := by
  refine F.ok scI7 (fun vs H Q E h => ?_) (fun cdv A outer s H vs Q E hr h => ?_)
  · obtain ⟨a, y, rfl, _⟩ := h
    rfl
  · obtain ⟨a, y, rfl, ha, k⟩ := h
    exact ⟨_, PSs.nox (pss_one (ps_est (pv 0) (pv 1))), _, rfl, _, rfl, a, C, rfl, T, no, .inl ⟨ha, fun dx n ne => k dx _ n ne (ini_end ne)⟩⟩

theorem scI8 : FnScope ["self", "at"] ["self", "at"] (defScope (inClass (top 10) 0)) := ⟨rfl, rfl, rfl, by decide +kernel, rfl, by decide +kernel, by decide +kernel⟩
theorem ok_ini8 {C : Addr} (F : FnI K "InvalidPremises.__init__" 10 f fd) (T : EC K C) (no : PySem.W.findIn K (.ref C) "at" = some none) : FnOk P w K mg base CX0 1 f fd ["self", "at"] (spIni "at" C) := by
  refine F.ok scI8 (fun vs H Q E h => ?_) (fun cdv A outer s H vs Q E hr h => ?_)
  · obtain ⟨a, y, rfl, _⟩ := h
    rfl
  · obtain ⟨a, y, rfl, ha, k⟩ := h
    exact ⟨_, PSs.nox (pss_one (ps_est (pv 0) (pv 1))), _, rfl, _, rfl, a, C, rfl, T, no, .inl ⟨ha, fun dx n ne => k dx _ n ne (ini_end ne)⟩⟩

theorem scI9 : FnScope ["self", "at"] ["self", "at"] (defScope (inClass (top 11) 0)) := ⟨rfl, rfl, rfl, by decide +kernel, rfl, by decide +kernel, by decide +kernel⟩
theorem ok_ini9 {C : Addr} (F : FnI K "InvalidProof.__init__" 11 f fd) (T : EC K C) (no : PySem.W.findIn K (.ref C) "at" = some none) : FnOk P w K mg base CX0 1 f fd ["self", "at"] (spIni "at" C) := by
  refine F.ok scI9 (fun vs H Q E h => ?_) (fun cdv A outer s H vs Q E hr h => ?_)
  · obtain ⟨a, y, rfl, _⟩ := h
    rfl
  · obtain ⟨a, y, rfl, ha, k⟩ := h
    exact ⟨_, PSs.nox (pss_one (ps_est (pv 0) (pv 1))), _, rfl, _, rfl, a, C, rfl, T, no, .inl ⟨ha, fun dx n ne => k dx _ n ne (ini_end ne)⟩⟩

theorem scI10 : FnScope ["self", "at"] ["self", "at"] (defScope (inClass (top 12) 0)) := ⟨rfl, rfl, rfl, by decide +kernel, rfl, by decide +kernel, by decide +kernel⟩
theorem ok_ini10 {C : Addr} (F : FnI K "InvalidFacts.__init__" 12 f fd) (T : EC K C) (no : PySem.W.findIn K (.ref C) "at" = some none) : FnOk P w K mg base CX0 1 f fd ["self", "at"] (spIni "at" C) := by
  refine F.ok scI10 (fun vs H Q E h => ?_) (fun cdv A outer s H vs Q E hr h => ?_)
  · obtain ⟨a, y, rfl, _⟩ := h
    rfl
  · obtain ⟨a, y, rfl, ha, k⟩ := h
    exact ⟨_, PSs.nox (pss_one (ps_est (pv 0) (pv 1))), _, rfl, _, rfl, a, C, rfl, T, no, .inl ⟨ha, fun dx n ne => k dx _ n ne (ini_end ne)⟩⟩

theorem scI11 : FnScope ["self", "at"] ["self", "at"] (defScope (inClass (top 13) 0)) := ⟨rfl, rfl, rfl, by decide +kernel, rfl, by decide +kernel, by decide +kernel⟩
theorem ok_ini11 {C : Addr} (F : FnI K "InvalidLot.__init__" 13 f fd) (T : EC K C) (no : PySem.W.findIn K (.ref C) "at" = some none) : FnOk P w K mg base CX0 1 f fd ["self", "at"] (spIni "at" C) := by
  refine F.ok scI11 (fun vs H Q E h => ?_) (fun cdv A outer s H vs Q E hr h => ?_)
  · obtain ⟨a, y, rfl, _⟩ := h
    rfl
  · obtain ⟨a, y, rfl, ha, k⟩ := h
    exact ⟨_, PSs.nox (pss_one (ps_est (pv 0) (pv 1))), _, rfl, _, rfl, a, C, rfl, T, no, .inl ⟨ha, fun dx n ne => k dx _ n ne (ini_end ne)⟩⟩

theorem scI12 : FnScope ["self", "at"] ["self", "at"] (defScope (inClass (top 14) 0)) := ⟨rfl, rfl, rfl, by decide +kernel, rfl, by decide +kernel, by decide +kernel⟩
theorem ok_ini12 {C : Addr} (F : FnI K "InvalidWorld.__init__" 14 f fd) (T : EC K C) (no : PySem.W.findIn K (.ref C) "at" = some none) : FnOk P w K mg base CX0 1 f fd ["self", "at"] (spIni "at" C) := by
  refine F.ok scI12 (fun vs H Q E h => ?_) (fun cdv A outer s H vs Q E hr h => ?_)
  · obtain ⟨a, y, rfl, _⟩ := h
    rfl
  · obtain ⟨a, y, rfl, ha, k⟩ := h
    exact ⟨_, PSs.nox (pss_one (ps_est (pv 0) (pv 1))), _, rfl, _, rfl, a, C, rfl, T, no, .inl ⟨ha, fun dx n ne => k dx _ n ne (ini_end ne)⟩⟩

theorem scI13 : FnScope ["self", "at"] ["self", "at"] (defScope (inClass (top 15) 0)) := ⟨rfl, rfl, rfl, by decide +kernel, rfl, by decide +kernel, by decide +kernel⟩
theorem ok_ini13 {C : Addr} (F : FnI K "InvalidSigned.__init__" 15 f fd) (T : EC K C) (no : PySem.W.findIn K (.ref C) "at" = some none) : FnOk P w K mg base CX0 1 f fd ["self", "at"] (spIni "at" C) := by
  refine F.ok scI13 (fun vs H Q E h => ?_) (fun cdv A outer s H vs Q E hr h => ?_)
  · obtain ⟨a, y, rfl, _⟩ := h
    rfl
  · obtain ⟨a, y, rfl, ha, k⟩ := h
    exact ⟨_, PSs.nox (pss_one (ps_est (pv 0) (pv 1))), _, rfl, _, rfl, a, C, rfl, T, no, .inl ⟨ha, fun dx n ne => k dx _ n ne (ini_end ne)⟩⟩

theorem scI14 : FnScope ["self", "at"] ["self", "at"] (defScope (inClass (top 16) 0)) := ⟨rfl, rfl, rfl, by decide +kernel, rfl, by decide +kernel, by decide +kernel⟩
theorem ok_ini14 {C : Addr} (F : FnI K "InvalidIndex.__init__" 16 f fd) (T : EC K C) (no : PySem.W.findIn K (.ref C) "at" = some none) : FnOk P w K mg base CX0 1 f fd ["self", "at"] (spIni "at" C) := by
  refine F.ok scI14 (fun vs H Q E h => ?_) (fun cdv A outer s H vs Q E hr h => ?_)
  · obtain ⟨a, y, rfl, _⟩ := h
    rfl
  · obtain ⟨a, y, rfl, ha, k⟩ := h
    exact ⟨_, PSs.nox (pss_one (ps_est (pv 0) (pv 1))), _, rfl, _, rfl, a, C, rfl, T, no, .inl ⟨ha, fun dx n ne => k dx _ n ne (ini_end ne)⟩⟩

theorem scI15 : FnScope ["self", "at"] ["self", "at"] (defScope (inClass (top 17) 0)) := ⟨rfl, rfl, rfl, by decide +kernel, rfl, by decide +kernel, by decide +kernel⟩
theorem ok_ini15 {C : Addr} (F : FnI K "Refused.__init__" 17 f fd) (T : EC K C) (no : PySem.W.findIn K (.ref C) "at" = some none) : FnOk P w K mg base CX0 1 f fd ["self", "at"] (spIni "at" C) := by
  refine F.ok scI15 (fun vs H Q E h => ?_) (fun cdv A outer s H vs Q E hr h => ?_)
  · obtain ⟨a, y, rfl, _⟩ := h
    rfl
  · obtain ⟨a, y, rfl, ha, k⟩ := h
    exact ⟨_, PSs.nox (pss_one (ps_est (pv 0) (pv 1))), _, rfl, _, rfl, a, C, rfl, T, no, .inl ⟨ha, fun dx n ne => k dx _ n ne (ini_end ne)⟩⟩

theorem scI16 : FnScope ["self", "word"] ["self", "word"] (defScope (inClass (top 18) 0)) := ⟨rfl, rfl, rfl, by decide +kernel, rfl, by decide +kernel, by decide +kernel⟩
theorem ok_ini16 {C : Addr} (F : FnI K "InvalidSize.__init__" 18 f fd) (T : EC K C) (no : PySem.W.findIn K (.ref C) "word" = some none) : FnOk P w K mg base CX0 1 f fd ["self", "word"] (spIni "word" C) := by
  refine F.ok scI16 (fun vs H Q E h => ?_) (fun cdv A outer s H vs Q E hr h => ?_)
  · obtain ⟨a, y, rfl, _⟩ := h
    rfl
  · obtain ⟨a, y, rfl, ha, k⟩ := h
    exact ⟨_, PSs.nox (pss_one (ps_est (pv 0) (pv 1))), _, rfl, _, rfl, a, C, rfl, T, no, .inl ⟨ha, fun dx n ne => k dx _ n ne (ini_end ne)⟩⟩

theorem scI17 : FnScope ["self", "name"] ["self", "name"] (defScope (inClass (top 19) 0)) := ⟨rfl, rfl, rfl, by decide +kernel, rfl, by decide +kernel, by decide +kernel⟩
theorem ok_ini17 {C : Addr} (F : FnI K "NoMaker.__init__" 19 f fd) (T : EC K C) (no : PySem.W.findIn K (.ref C) "name" = some none) : FnOk P w K mg base CX0 1 f fd ["self", "name"] (spIni "name" C) := by
  refine F.ok scI17 (fun vs H Q E h => ?_) (fun cdv A outer s H vs Q E hr h => ?_)
  · obtain ⟨a, y, rfl, _⟩ := h
    rfl
  · obtain ⟨a, y, rfl, ha, k⟩ := h
    exact ⟨_, PSs.nox (pss_one (ps_est (pv 0) (pv 1))), _, rfl, _, rfl, a, C, rfl, T, no, .inl ⟨ha, fun dx n ne => k dx _ n ne (ini_end ne)⟩⟩

theorem scI18 : FnScope ["self", "number"] ["self", "number"] (defScope (inClass (top 20) 0)) := ⟨rfl, rfl, rfl, by decide +kernel, rfl, by decide +kernel, by decide +kernel⟩
theorem ok_ini18 {C : Addr} (F : FnI K "NoRule.__init__" 20 f fd) (T : EC K C) (no : PySem.W.findIn K (.ref C) "number" = some none) : FnOk P w K mg base CX0 1 f fd ["self", "number"] (spIni "number" C) := by
  refine F.ok scI18 (fun vs H Q E h => ?_) (fun cdv A outer s H vs Q E hr h => ?_)
  · obtain ⟨a, y, rfl, _⟩ := h
    rfl
  · obtain ⟨a, y, rfl, ha, k⟩ := h
    exact ⟨_, PSs.nox (pss_one (ps_est (pv 0) (pv 1))), _, rfl, _, rfl, a, C, rfl, T, no, .inl ⟨ha, fun dx n ne => k dx _ n ne (ini_end ne)⟩⟩

theorem scI19 : FnScope ["self", "right", "left", "row"] ["self", "right", "left", "row"] (defScope (inClass (top 21) 0)) := ⟨rfl, rfl, rfl, by decide +kernel, rfl, by decide +kernel, by decide +kernel⟩
theorem ok_ini19 {C : Addr} (F : FnI K "NotCalm.__init__" 21 f fd) (T : EC K C) (n1 : PySem.W.findIn K (.ref C) "right" = some none) (n2 : PySem.W.findIn K (.ref C) "left" = some none) (n3 : PySem.W.findIn K (.ref C) "row" = some none) :
    FnOk P w K mg base CX0 1 f fd ["self", "right", "left", "row"] (spIni3 C) := by
  refine F.ok scI19 (fun vs H Q E h => ?_) (fun cdv A outer s H vs Q E hr h => ?_)
  · obtain ⟨a, x, y, z, rfl, _⟩ := h
    rfl
  · obtain ⟨a, x, y, z, rfl, ha, k⟩ := h
    refine ⟨_, PSs.nox (pss_cons (ps_est (pv 0) (pv 1)) (pss_cons (ps_est (pv 0) (pv 2)) (pss_one (ps_est (pv 0) (pv 3))))), _, rfl, _, rfl, a, C, rfl, T, n1, .inl ⟨ha, fun dx n ne => ?_⟩⟩
    refine ⟨_, rfl, _, rfl, a, C, rfl, T, n2, .inr ⟨dx, _, (by rw [upd_ne ne.symm, upd_same]), upd_same, Nat.le_of_ble_eq_true rfl, ?_⟩⟩
    refine ⟨_, rfl, _, rfl, a, C, rfl, T, n3, .inr ⟨dx, _, (by rw [upd_ne ne.symm, upd_ne ne.symm, upd_same]), upd_same, Nat.le_of_ble_eq_true rfl, ?_⟩⟩
    exact k dx _ n ne ⟨by rw [upd_ne ne.symm, upd_ne ne.symm, upd_ne ne.symm, upd_same], upd_same, fun b na nd => by rw [upd_ne nd, upd_ne nd, upd_ne nd, upd_ne na]⟩
end
end K00

set_option Elab.async false
set_option linter.all false
set_option maxRecDepth 100000
set_option maxHeartbeats 8000000
namespace K00
open PySem PySem.Spec PyProof.Rows L2 Say
/-! ### the law's own helpers over errors -/
def fld (i : Nat) : Str := if i ≤ 15 then "at" else if i = 16 then "word" else if i = 17 then "name" else "number"
/-- what stands behind a raise of the error of number i with v -/
def Raised (i : Nat) (v : V) (d : Option Addr) (H H' : Hp) : Prop := Same H H' ∧ (i ≤ 18 → ∃ dd, d = some dd ∧ H' dd = some (.xd [(fld i, v)])) ∧
  (i = 19 → ∃ dd t, d = some dd ∧ H' dd = some (.xd [("row", .ref t), ("left", .int 5), ("right", v)]) ∧ H' t = some (.tup [.int 0, .int 1]))
def spRaise (K : PySem.W.Frag) : Sp := fun vs H Q E => ∃ (i : Nat) (v : V), i ≤ 20 ∧ vs = [.int i, v] ∧ ∀ d H', Raised i v d H H' → E (.ref (C K i)) d H'
theorem raise_mid {Ca a dx : Addr} {fs : List (Str × V)} {H H' : Hp} (hn : H a = none) (nd : upd H a (exo a Ca none) dx = none) (ne : dx ≠ a) (I : IniEnd Ca a dx fs (upd H a (exo a Ca none)) H') :
    H dx = none ∧ Same H (upd (del H' a) dx (.xd fs)) ∧ upd (del H' a) dx (.xd fs) dx = some (.xd fs) := by
  have nd' : H dx = none := by
    rw [upd_ne ne] at nd
    exact nd
  refine ⟨nd', fun b o q => ?_, upd_same⟩
  have nb : b ≠ a := ne_of_none q hn
  have nb2 : b ≠ dx := ne_of_none q nd'
  rw [upd_ne nb2, del_ne nb, I.old b nb nb2, upd_ne nb]
  exact q
/-- the reading of raise C(thing), C's __init__ keeping spIni -/
theorem raise_one {Ca : Addr} {f : Str} {σ : L2.St} {H : Hp} {v : V} {Q : XK} (hv : σ[1]? = some (some v)) (k : ∀ dd H', Same H H' → H' dd = some (.xd [(f, v)]) → Q (.ref Ca) (some dd) H') :
    tMkE Ca (spIni f Ca) [] (tCons (tVar 1) tNil) σ H Q := by
  refine ⟨v, hv, Nat.le_of_ble_eq_true rfl, fun a hn => ⟨a, v, rfl, upd_same, fun dx H' nd ne I => ?_⟩⟩
  obtain ⟨n1, s1, e1⟩ := raise_mid hn nd ne I
  exact ⟨rfl, dx, _, I.obj, I.dic, n1, k dx _ s1 e1⟩

/-- what the head tells -/
structure Tx (K : PySem.W.Frag) (mg : Str → Option Value) : Prop where
  bl : Bl mg
  sE : mg "SayError" = some (.ref (CS K))
  cls : ∀ i, i ≤ 20 → mg (nm i) = some (.ref (C K i)) ∧ EC K (C K i) ∧ ∀ f ∈ flds i, PySem.W.findIn K (.ref (C K i)) f = some none
  ini : ∀ i, i ≤ 19 → EI K (C K i) (ini K i)
  exm : ∀ i j, i ≤ 20 → j ≤ 20 → PySem.W.exmOne K (.ref (C K i)) (.ref (C K j)) = some (decide (i = j))
  exS : ∀ i, i ≤ 20 → PySem.W.exmOne K (.ref (C K i)) (.ref (CS K)) = some true
  e20 : PySem.W.excIn K (C K 20) bmE "Exception.__new__" = true

  f0 : ∃ fd, FnI K "InvalidText.__init__" 2 (K00.ini K 0) fd
  f1 : ∃ fd, FnI K "InvalidSaying.__init__" 3 (K00.ini K 1) fd
  f2 : ∃ fd, FnI K "InvalidSheet.__init__" 4 (K00.ini K 2) fd
  f3 : ∃ fd, FnI K "InvalidFilling.__init__" 5 (K00.ini K 3) fd
  f4 : ∃ fd, FnI K "InvalidMakers.__init__" 6 (K00.ini K 4) fd
  f5 : ∃ fd, FnI K "InvalidRules.__init__" 7 (K00.ini K 5) fd
  f6 : ∃ fd, FnI K "InvalidBook.__init__" 8 (K00.ini K 6) fd
  f7 : ∃ fd, FnI K "InvalidRow.__init__" 9 (K00.ini K 7) fd
  f8 : ∃ fd, FnI K "InvalidPremises.__init__" 10 (K00.ini K 8) fd
  f9 : ∃ fd, FnI K "InvalidProof.__init__" 11 (K00.ini K 9) fd
  f10 : ∃ fd, FnI K "InvalidFacts.__init__" 12 (K00.ini K 10) fd
  f11 : ∃ fd, FnI K "InvalidLot.__init__" 13 (K00.ini K 11) fd
  f12 : ∃ fd, FnI K "InvalidWorld.__init__" 14 (K00.ini K 12) fd
  f13 : ∃ fd, FnI K "InvalidSigned.__init__" 15 (K00.ini K 13) fd
  f14 : ∃ fd, FnI K "InvalidIndex.__init__" 16 (K00.ini K 14) fd
  f15 : ∃ fd, FnI K "Refused.__init__" 17 (K00.ini K 15) fd
  f16 : ∃ fd, FnI K "InvalidSize.__init__" 18 (K00.ini K 16) fd
  f17 : ∃ fd, FnI K "NoMaker.__init__" 19 (K00.ini K 17) fd
  f18 : ∃ fd, FnI K "NoRule.__init__" 20 (K00.ini K 18) fd
  f19 : ∃ fd, FnI K "NotCalm.__init__" 21 (K00.ini K 19) fd
theorem eqi {i : Nat} {j : Int} (c : decide (V.int (i : Int) = V.int j) = true) : (i : Int) = j := V.int.inj (of_decide_eq_true c)
theorem nei {i : Nat} {j : Int} (c : ¬ decide (V.int (i : Int) = V.int j) = true) : (i : Int) ≠ j := fun e => c (decide_eq_true (by rw [e]))
section
variable {P : Program} {w : World} {K : PySem.W.Frag} {mg : Str → Option Value} {base : Heap} {f : Addr} {fd : FuncData}
theorem Tx.no (T : Tx K mg) (i : Nat) (hi : i ≤ 20) {f : Str} (hf : f ∈ flds i) : PySem.W.findIn K (.ref (C K i)) f = some none := (T.cls i hi).2.2 f hf
theorem scR : FnScope ["number", "thing"] ["number", "thing"] (defScope (top 27)) := ⟨rfl, rfl, rfl, by decide +kernel, rfl, by decide +kernel, by decide +kernel⟩
theorem ok_raise (F : FnP K "_law_raise" 27 f fd) (T : Tx K mg) : FnOk P w K mg base (L2.CX P w) 4 f fd ["number", "thing"] (spRaise K) := by
  obtain ⟨fd0, F0⟩ := T.f0
  have b0 : Binds K fd0 ["self", "at"] [] := F0.bindsN fun _ _ _ _ _ _ us hl => match us, hl with | [_, _], _ => rfl
  have G0 : FnOk P w K mg base CX0 1 (K00.ini K 0) fd0 ["self", "at"] (spIni "at" (C K 0)) := ok_ini0 F0 (T.cls 0 (by decide)).2.1 (T.no 0 (by decide) (by decide))
  obtain ⟨fd1, F1⟩ := T.f1
  have b1 : Binds K fd1 ["self", "at"] [] := F1.bindsN fun _ _ _ _ _ _ us hl => match us, hl with | [_, _], _ => rfl
  have G1 : FnOk P w K mg base CX0 1 (K00.ini K 1) fd1 ["self", "at"] (spIni "at" (C K 1)) := ok_ini1 F1 (T.cls 1 (by decide)).2.1 (T.no 1 (by decide) (by decide))
  obtain ⟨fd2, F2⟩ := T.f2
  have b2 : Binds K fd2 ["self", "at"] [] := F2.bindsN fun _ _ _ _ _ _ us hl => match us, hl with | [_, _], _ => rfl
  have G2 : FnOk P w K mg base CX0 1 (K00.ini K 2) fd2 ["self", "at"] (spIni "at" (C K 2)) := ok_ini2 F2 (T.cls 2 (by decide)).2.1 (T.no 2 (by decide) (by decide))
  obtain ⟨fd3, F3⟩ := T.f3
  have b3 : Binds K fd3 ["self", "at"] [] := F3.bindsN fun _ _ _ _ _ _ us hl => match us, hl with | [_, _], _ => rfl
  have G3 : FnOk P w K mg base CX0 1 (K00.ini K 3) fd3 ["self", "at"] (spIni "at" (C K 3)) := ok_ini3 F3 (T.cls 3 (by decide)).2.1 (T.no 3 (by decide) (by decide))
  obtain ⟨fd4, F4⟩ := T.f4
  have b4 : Binds K fd4 ["self", "at"] [] := F4.bindsN fun _ _ _ _ _ _ us hl => match us, hl with | [_, _], _ => rfl
  have G4 : FnOk P w K mg base CX0 1 (K00.ini K 4) fd4 ["self", "at"] (spIni "at" (C K 4)) := ok_ini4 F4 (T.cls 4 (by decide)).2.1 (T.no 4 (by decide) (by decide))
  obtain ⟨fd5, F5⟩ := T.f5
  have b5 : Binds K fd5 ["self", "at"] [] := F5.bindsN fun _ _ _ _ _ _ us hl => match us, hl with | [_, _], _ => rfl
  have G5 : FnOk P w K mg base CX0 1 (K00.ini K 5) fd5 ["self", "at"] (spIni "at" (C K 5)) := ok_ini5 F5 (T.cls 5 (by decide)).2.1 (T.no 5 (by decide) (by decide))
  obtain ⟨fd6, F6⟩ := T.f6
  have b6 : Binds K fd6 ["self", "at"] [] := F6.bindsN fun _ _ _ _ _ _ us hl => match us, hl with | [_, _], _ => rfl
  have G6 : FnOk P w K mg base CX0 1 (K00.ini K 6) fd6 ["self", "at"] (spIni "at" (C K 6)) := ok_ini6 F6 (T.cls 6 (by decide)).2.1 (T.no 6 (by decide) (by decide))
  obtain ⟨fd7, F7⟩ := T.f7
  have b7 : Binds K fd7 ["self", "at"] [] := F7.bindsN fun _ _ _ _ _ _ us hl => match us, hl with | [_, _], _ => rfl
  have G7 : FnOk P w K mg base CX0 1 (K00.ini K 7) fd7 ["self", "at"] (spIni "at" (C K 7)) := ok_ini7 F7 (T.cls 7 (by decide)).2.1 (T.no 7 (by decide) (by decide))
  obtain ⟨fd8, F8⟩ := T.f8
  have b8 : Binds K fd8 ["self", "at"] [] := F8.bindsN fun _ _ _ _ _ _ us hl => match us, hl with | [_, _], _ => rfl
  have G8 : FnOk P w K mg base CX0 1 (K00.ini K 8) fd8 ["self", "at"] (spIni "at" (C K 8)) := ok_ini8 F8 (T.cls 8 (by decide)).2.1 (T.no 8 (by decide) (by decide))
  obtain ⟨fd9, F9⟩ := T.f9
  have b9 : Binds K fd9 ["self", "at"] [] := F9.bindsN fun _ _ _ _ _ _ us hl => match us, hl with | [_, _], _ => rfl
  have G9 : FnOk P w K mg base CX0 1 (K00.ini K 9) fd9 ["self", "at"] (spIni "at" (C K 9)) := ok_ini9 F9 (T.cls 9 (by decide)).2.1 (T.no 9 (by decide) (by decide))
  obtain ⟨fd10, F10⟩ := T.f10
  have b10 : Binds K fd10 ["self", "at"] [] := F10.bindsN fun _ _ _ _ _ _ us hl => match us, hl with | [_, _], _ => rfl
  have G10 : FnOk P w K mg base CX0 1 (K00.ini K 10) fd10 ["self", "at"] (spIni "at" (C K 10)) := ok_ini10 F10 (T.cls 10 (by decide)).2.1 (T.no 10 (by decide) (by decide))
  obtain ⟨fd11, F11⟩ := T.f11
  have b11 : Binds K fd11 ["self", "at"] [] := F11.bindsN fun _ _ _ _ _ _ us hl => match us, hl with | [_, _], _ => rfl
  have G11 : FnOk P w K mg base CX0 1 (K00.ini K 11) fd11 ["self", "at"] (spIni "at" (C K 11)) := ok_ini11 F11 (T.cls 11 (by decide)).2.1 (T.no 11 (by decide) (by decide))
  obtain ⟨fd12, F12⟩ := T.f12
  have b12 : Binds K fd12 ["self", "at"] [] := F12.bindsN fun _ _ _ _ _ _ us hl => match us, hl with | [_, _], _ => rfl
  have G12 : FnOk P w K mg base CX0 1 (K00.ini K 12) fd12 ["self", "at"] (spIni "at" (C K 12)) := ok_ini12 F12 (T.cls 12 (by decide)).2.1 (T.no 12 (by decide) (by decide))
  obtain ⟨fd13, F13⟩ := T.f13
  have b13 : Binds K fd13 ["self", "at"] [] := F13.bindsN fun _ _ _ _ _ _ us hl => match us, hl with | [_, _], _ => rfl
  have G13 : FnOk P w K mg base CX0 1 (K00.ini K 13) fd13 ["self", "at"] (spIni "at" (C K 13)) := ok_ini13 F13 (T.cls 13 (by decide)).2.1 (T.no 13 (by decide) (by decide))
  obtain ⟨fd14, F14⟩ := T.f14
  have b14 : Binds K fd14 ["self", "at"] [] := F14.bindsN fun _ _ _ _ _ _ us hl => match us, hl with | [_, _], _ => rfl
  have G14 : FnOk P w K mg base CX0 1 (K00.ini K 14) fd14 ["self", "at"] (spIni "at" (C K 14)) := ok_ini14 F14 (T.cls 14 (by decide)).2.1 (T.no 14 (by decide) (by decide))
  obtain ⟨fd15, F15⟩ := T.f15
  have b15 : Binds K fd15 ["self", "at"] [] := F15.bindsN fun _ _ _ _ _ _ us hl => match us, hl with | [_, _], _ => rfl
  have G15 : FnOk P w K mg base CX0 1 (K00.ini K 15) fd15 ["self", "at"] (spIni "at" (C K 15)) := ok_ini15 F15 (T.cls 15 (by decide)).2.1 (T.no 15 (by decide) (by decide))
  obtain ⟨fd16, F16⟩ := T.f16
  have b16 : Binds K fd16 ["self", "word"] [] := F16.bindsN fun _ _ _ _ _ _ us hl => match us, hl with | [_, _], _ => rfl
  have G16 : FnOk P w K mg base CX0 1 (K00.ini K 16) fd16 ["self", "word"] (spIni "word" (C K 16)) := ok_ini16 F16 (T.cls 16 (by decide)).2.1 (T.no 16 (by decide) (by decide))
  obtain ⟨fd17, F17⟩ := T.f17
  have b17 : Binds K fd17 ["self", "name"] [] := F17.bindsN fun _ _ _ _ _ _ us hl => match us, hl with | [_, _], _ => rfl
  have G17 : FnOk P w K mg base CX0 1 (K00.ini K 17) fd17 ["self", "name"] (spIni "name" (C K 17)) := ok_ini17 F17 (T.cls 17 (by decide)).2.1 (T.no 17 (by decide) (by decide))
  obtain ⟨fd18, F18⟩ := T.f18
  have b18 : Binds K fd18 ["self", "number"] [] := F18.bindsN fun _ _ _ _ _ _ us hl => match us, hl with | [_, _], _ => rfl
  have G18 : FnOk P w K mg base CX0 1 (K00.ini K 18) fd18 ["self", "number"] (spIni "number" (C K 18)) := ok_ini18 F18 (T.cls 18 (by decide)).2.1 (T.no 18 (by decide) (by decide))
  obtain ⟨fd19, F19⟩ := T.f19
  have b19 : Binds K fd19 ["self", "right", "left", "row"] [] := F19.bindsN fun _ _ _ _ _ _ us hl => match us, hl with | [_, _, _, _], _ => rfl
  have G19 : FnOk P w K mg base CX0 1 (K00.ini K 19) fd19 ["self", "right", "left", "row"] (spIni3 (C K 19)) := ok_ini19 F19 (T.cls 19 (by decide)).2.1 (T.no 19 (by decide) (by decide)) (T.no 19 (by decide) (by decide)) (T.no 19 (by decide) (by decide))
  refine F.ok scR (fun vs H Q E h => ?_) (fun cdv A outer s H vs Q E hr h => ?_)
  · obtain ⟨i, v, _, rfl, _⟩ := h
    rfl
  · have hr2 : Room 2 _ := hr.mono (by decide)
    refine ⟨_, pss_cons (ps_if (pt_cmpR op_eq (pv 0) pe_int (nomark _)) (pss_one (ps_raise rfl (takes_of rfl rfl rfl rfl) (pmk_e (T.cls 0 (by decide)).2.1 (T.ini 0 (by decide)) G0 hr2 b0 .nil pass0 (T.cls 0 (by decide)).1 (pa_cons (pv 1) pa_nil))))
      (pss_one (ps_if (pt_cmpR op_eq (pv 0) pe_int (nomark _)) (pss_one (ps_raise rfl (takes_of rfl rfl rfl rfl) (pmk_e (T.cls 1 (by decide)).2.1 (T.ini 1 (by decide)) G1 hr2 b1 .nil pass0 (T.cls 1 (by decide)).1 (pa_cons (pv 1) pa_nil))))
      (pss_one (ps_if (pt_cmpR op_eq (pv 0) pe_int (nomark _)) (pss_one (ps_raise rfl (takes_of rfl rfl rfl rfl) (pmk_e (T.cls 2 (by decide)).2.1 (T.ini 2 (by decide)) G2 hr2 b2 .nil pass0 (T.cls 2 (by decide)).1 (pa_cons (pv 1) pa_nil))))
      (pss_one (ps_if (pt_cmpR op_eq (pv 0) pe_int (nomark _)) (pss_one (ps_raise rfl (takes_of rfl rfl rfl rfl) (pmk_e (T.cls 3 (by decide)).2.1 (T.ini 3 (by decide)) G3 hr2 b3 .nil pass0 (T.cls 3 (by decide)).1 (pa_cons (pv 1) pa_nil))))
      (pss_one (ps_if (pt_cmpR op_eq (pv 0) pe_int (nomark _)) (pss_one (ps_raise rfl (takes_of rfl rfl rfl rfl) (pmk_e (T.cls 4 (by decide)).2.1 (T.ini 4 (by decide)) G4 hr2 b4 .nil pass0 (T.cls 4 (by decide)).1 (pa_cons (pv 1) pa_nil))))
      (pss_one (ps_if (pt_cmpR op_eq (pv 0) pe_int (nomark _)) (pss_one (ps_raise rfl (takes_of rfl rfl rfl rfl) (pmk_e (T.cls 5 (by decide)).2.1 (T.ini 5 (by decide)) G5 hr2 b5 .nil pass0 (T.cls 5 (by decide)).1 (pa_cons (pv 1) pa_nil))))
      (pss_one (ps_if (pt_cmpR op_eq (pv 0) pe_int (nomark _)) (pss_one (ps_raise rfl (takes_of rfl rfl rfl rfl) (pmk_e (T.cls 6 (by decide)).2.1 (T.ini 6 (by decide)) G6 hr2 b6 .nil pass0 (T.cls 6 (by decide)).1 (pa_cons (pv 1) pa_nil))))
      (pss_one (ps_if (pt_cmpR op_eq (pv 0) pe_int (nomark _)) (pss_one (ps_raise rfl (takes_of rfl rfl rfl rfl) (pmk_e (T.cls 7 (by decide)).2.1 (T.ini 7 (by decide)) G7 hr2 b7 .nil pass0 (T.cls 7 (by decide)).1 (pa_cons (pv 1) pa_nil))))
      (pss_one (ps_if (pt_cmpR op_eq (pv 0) pe_int (nomark _)) (pss_one (ps_raise rfl (takes_of rfl rfl rfl rfl) (pmk_e (T.cls 8 (by decide)).2.1 (T.ini 8 (by decide)) G8 hr2 b8 .nil pass0 (T.cls 8 (by decide)).1 (pa_cons (pv 1) pa_nil))))
      (pss_one (ps_if (pt_cmpR op_eq (pv 0) pe_int (nomark _)) (pss_one (ps_raise rfl (takes_of rfl rfl rfl rfl) (pmk_e (T.cls 9 (by decide)).2.1 (T.ini 9 (by decide)) G9 hr2 b9 .nil pass0 (T.cls 9 (by decide)).1 (pa_cons (pv 1) pa_nil))))
      (pss_one (ps_if (pt_cmpR op_eq (pv 0) pe_int (nomark _)) (pss_one (ps_raise rfl (takes_of rfl rfl rfl rfl) (pmk_e (T.cls 10 (by decide)).2.1 (T.ini 10 (by decide)) G10 hr2 b10 .nil pass0 (T.cls 10 (by decide)).1 (pa_cons (pv 1) pa_nil))))
      (pss_one (ps_if (pt_cmpR op_eq (pv 0) pe_int (nomark _)) (pss_one (ps_raise rfl (takes_of rfl rfl rfl rfl) (pmk_e (T.cls 11 (by decide)).2.1 (T.ini 11 (by decide)) G11 hr2 b11 .nil pass0 (T.cls 11 (by decide)).1 (pa_cons (pv 1) pa_nil))))
      (pss_one (ps_if (pt_cmpR op_eq (pv 0) pe_int (nomark _)) (pss_one (ps_raise rfl (takes_of rfl rfl rfl rfl) (pmk_e (T.cls 12 (by decide)).2.1 (T.ini 12 (by decide)) G12 hr2 b12 .nil pass0 (T.cls 12 (by decide)).1 (pa_cons (pv 1) pa_nil))))
      (pss_one (ps_if (pt_cmpR op_eq (pv 0) pe_int (nomark _)) (pss_one (ps_raise rfl (takes_of rfl rfl rfl rfl) (pmk_e (T.cls 13 (by decide)).2.1 (T.ini 13 (by decide)) G13 hr2 b13 .nil pass0 (T.cls 13 (by decide)).1 (pa_cons (pv 1) pa_nil))))
      (pss_one (ps_if (pt_cmpR op_eq (pv 0) pe_int (nomark _)) (pss_one (ps_raise rfl (takes_of rfl rfl rfl rfl) (pmk_e (T.cls 14 (by decide)).2.1 (T.ini 14 (by decide)) G14 hr2 b14 .nil pass0 (T.cls 14 (by decide)).1 (pa_cons (pv 1) pa_nil))))
      (pss_one (ps_if (pt_cmpR op_eq (pv 0) pe_int (nomark _)) (pss_one (ps_raise rfl (takes_of rfl rfl rfl rfl) (pmk_e (T.cls 15 (by decide)).2.1 (T.ini 15 (by decide)) G15 hr2 b15 .nil pass0 (T.cls 15 (by decide)).1 (pa_cons (pv 1) pa_nil))))
      (pss_one (ps_if (pt_cmpR op_eq (pv 0) pe_int (nomark _)) (pss_one (ps_raise rfl (takes_of rfl rfl rfl rfl) (pmk_e (T.cls 16 (by decide)).2.1 (T.ini 16 (by decide)) G16 hr2 b16 .nil pass0 (T.cls 16 (by decide)).1 (pa_cons (pv 1) pa_nil))))
      (pss_one (ps_if (pt_cmpR op_eq (pv 0) pe_int (nomark _)) (pss_one (ps_raise rfl (takes_of rfl rfl rfl rfl) (pmk_e (T.cls 17 (by decide)).2.1 (T.ini 17 (by decide)) G17 hr2 b17 .nil pass0 (T.cls 17 (by decide)).1 (pa_cons (pv 1) pa_nil))))
      (pss_one (ps_if (pt_cmpR op_eq (pv 0) pe_int (nomark _)) (pss_one (ps_raise rfl (takes_of rfl rfl rfl rfl) (pmk_e (T.cls 18 (by decide)).2.1 (T.ini 18 (by decide)) G18 hr2 b18 .nil pass0 (T.cls 18 (by decide)).1 (pa_cons (pv 1) pa_nil))))
      (pss_one (ps_if (pt_cmpR op_eq (pv 0) pe_int (nomark _)) (pss_one (ps_raise rfl (takes_of rfl rfl rfl rfl) (pmk_e (T.cls 19 (by decide)).2.1 (T.ini 19 (by decide)) G19 hr2 b19 .nil pass0 (T.cls 19 (by decide)).1 (pa_cons (pv 1) (pa_cons pe_int (pa_cons (pe_tup (pa_cons pe_int (pa_cons pe_int pa_nil))) pa_nil)))))) pss_nil)))))))))))))))))))))))))))))))))))))))
      (pss_one (ps_raise rfl (takes_of rfl rfl rfl rfl) (pmk_e0 T.e20 (T.cls 20 (by decide)).2.1 (T.cls 20 (by decide)).1))), ?_⟩
    obtain ⟨i, v, hi, rfl, k⟩ := h
    have one : ∀ j : Nat, j ≤ 18 → j = i → ∀ dd H', Same H H' → H' dd = some (.xd [(fld j, v)]) → E (.ref (C K j)) (some dd) H' := fun j hj e dd H' s q => by
      subst e
      exact k _ _ ⟨s, fun _ => ⟨dd, rfl, q⟩, fun z => absurd z (by omega)⟩
    refine ⟨_, rfl, rfl, _, rfl, ite2 (fun c => raise_one rfl (one 0 (by decide) (by have e := eqi c; omega))) (fun c0 => ?_)⟩
    have n0 := nei c0
    refine ⟨_, rfl, rfl, _, rfl, ite2 (fun c => raise_one rfl (one 1 (by decide) (by have e := eqi c; omega))) (fun c1 => ?_)⟩
    have n1 := nei c1
    refine ⟨_, rfl, rfl, _, rfl, ite2 (fun c => raise_one rfl (one 2 (by decide) (by have e := eqi c; omega))) (fun c2 => ?_)⟩
    have n2 := nei c2
    refine ⟨_, rfl, rfl, _, rfl, ite2 (fun c => raise_one rfl (one 3 (by decide) (by have e := eqi c; omega))) (fun c3 => ?_)⟩
    have n3 := nei c3
    refine ⟨_, rfl, rfl, _, rfl, ite2 (fun c => raise_one rfl (one 4 (by decide) (by have e := eqi c; omega))) (fun c4 => ?_)⟩
    have n4 := nei c4
    refine ⟨_, rfl, rfl, _, rfl, ite2 (fun c => raise_one rfl (one 5 (by decide) (by have e := eqi c; omega))) (fun c5 => ?_)⟩
    have n5 := nei c5
    refine ⟨_, rfl, rfl, _, rfl, ite2 (fun c => raise_one rfl (one 6 (by decide) (by have e := eqi c; omega))) (fun c6 => ?_)⟩
    have n6 := nei c6
    refine ⟨_, rfl, rfl, _, rfl, ite2 (fun c => raise_one rfl (one 7 (by decide) (by have e := eqi c; omega))) (fun c7 => ?_)⟩
    have n7 := nei c7
    refine ⟨_, rfl, rfl, _, rfl, ite2 (fun c => raise_one rfl (one 8 (by decide) (by have e := eqi c; omega))) (fun c8 => ?_)⟩
    have n8 := nei c8
    refine ⟨_, rfl, rfl, _, rfl, ite2 (fun c => raise_one rfl (one 9 (by decide) (by have e := eqi c; omega))) (fun c9 => ?_)⟩
    have n9 := nei c9
    refine ⟨_, rfl, rfl, _, rfl, ite2 (fun c => raise_one rfl (one 10 (by decide) (by have e := eqi c; omega))) (fun c10 => ?_)⟩
    have n10 := nei c10
    refine ⟨_, rfl, rfl, _, rfl, ite2 (fun c => raise_one rfl (one 11 (by decide) (by have e := eqi c; omega))) (fun c11 => ?_)⟩
    have n11 := nei c11
    refine ⟨_, rfl, rfl, _, rfl, ite2 (fun c => raise_one rfl (one 12 (by decide) (by have e := eqi c; omega))) (fun c12 => ?_)⟩
    have n12 := nei c12
    refine ⟨_, rfl, rfl, _, rfl, ite2 (fun c => raise_one rfl (one 13 (by decide) (by have e := eqi c; omega))) (fun c13 => ?_)⟩
    have n13 := nei c13
    refine ⟨_, rfl, rfl, _, rfl, ite2 (fun c => raise_one rfl (one 14 (by decide) (by have e := eqi c; omega))) (fun c14 => ?_)⟩
    have n14 := nei c14
    refine ⟨_, rfl, rfl, _, rfl, ite2 (fun c => raise_one rfl (one 15 (by decide) (by have e := eqi c; omega))) (fun c15 => ?_)⟩
    have n15 := nei c15
    refine ⟨_, rfl, rfl, _, rfl, ite2 (fun c => raise_one rfl (one 16 (by decide) (by have e := eqi c; omega))) (fun c16 => ?_)⟩
    have n16 := nei c16
    refine ⟨_, rfl, rfl, _, rfl, ite2 (fun c => raise_one rfl (one 17 (by decide) (by have e := eqi c; omega))) (fun c17 => ?_)⟩
    have n17 := nei c17
    refine ⟨_, rfl, rfl, _, rfl, ite2 (fun c => raise_one rfl (one 18 (by decide) (by have e := eqi c; omega))) (fun c18 => ?_)⟩
    have n18 := nei c18
    refine ⟨_, rfl, rfl, _, rfl, ite2 (fun c => ?_) (fun c19 => ?_)⟩
    · have e := eqi c
      have e19 : i = 19 := by omega
      refine ⟨_, rfl, (by show 2 ≤ sizeLine; decide), fun t ht => ⟨Nat.le_of_ble_eq_true rfl, fun a hn => ⟨a, _, _, _, rfl, upd_same, fun dx H' nd ne I => ?_⟩⟩⟩
      obtain ⟨z1, s1, q1⟩ := raise_mid hn nd ne I
      refine ⟨rfl, dx, _, I.obj, I.dic, z1, ?_⟩
      subst e19
      refine k _ _ ⟨fun b o q => s1 b o (by rw [upd_ne (ne_of_none q ht)]; exact q), fun z => absurd z (by decide), fun _ => ⟨dx, t, rfl, q1, s1 t _ upd_same⟩⟩
    · have n19 := nei c19
      have e20 : i = 20 := by omega
      subst e20
      exact k _ _ ⟨Same.refl H, fun z => absurd z (by decide), fun z => absurd z (by decide)⟩
end
end K00

set_option Elab.async false
set_option linter.all false
set_option maxRecDepth 100000
set_option maxHeartbeats 8000000
namespace K00
open PySem PySem.Spec PyProof.Rows L2 Say
theorem cl_no {K : PySem.W.Frag} {Wout : WX} {D : Ends} {q : Cl} {r : List Cl} {cls : Value} {d : Option Addr} {σ : L2.St} {H : Hp} (h : PySem.W.exmOne K cls q.c = some false) (w : wCl K Wout D r cls d σ H) : wCl K Wout D (q :: r) cls d σ H :=
  ⟨false, h, (fun z => nomatch z), fun _ => w⟩
theorem cl_yes {K : PySem.W.Frag} {Wout : WX} {D : Ends} {q : Cl} {r : List Cl} {cls : Value} {d : Option Addr} {σ : L2.St} {H : Hp} (h : PySem.W.exmOne K cls q.c = some true)
    (w : ∀ a, H a = none → q.ts a cls d (q.ends D) (q.on a σ) H) : wCl K Wout D (q :: r) cls d σ H := ⟨true, h, fun _ => w, (fun z => nomatch z)⟩
theorem lk_row {a b c : V} : List.lookup ("row" : Str) [(("row" : Str), a), (("left" : Str), b), (("right" : Str), c)] = some a := by simp [List.lookup]
theorem lk_left {a b c : V} : List.lookup ("left" : Str) [(("row" : Str), a), (("left" : Str), b), (("right" : Str), c)] = some b := by
  have e : (("left" : Str) == "row") = false := by decide +kernel
  simp [List.lookup, e]
theorem lk_right {a b c : V} : List.lookup ("right" : Str) [(("row" : Str), a), (("left" : Str), b), (("right" : Str), c)] = some c := by
  have e : (("right" : Str) == "row") = false := by decide +kernel
  have e2 : (("right" : Str) == "left") = false := by decide +kernel
  simp [List.lookup, e, e2]
def spCaught (K : PySem.W.Frag) : Sp := fun vs H Q _ => ∃ (i : Nat) (v : V), i ≤ 20 ∧ vs = [.int i, v] ∧ ∀ H' t, Same H H' → H t = none → H' t = some (.tup [.int i, v]) → Q (.ref t) H'
def spBase : Sp := fun vs H Q _ => ∃ (i : Nat) (v : V), i ≤ 20 ∧ vs = [.int i, v] ∧ ∀ H', Same H H' → Q (.bl true) H'
/-- return (number, e.field) -/
theorem back_one {Ca a dd : Addr} {i : Int} {f : Str} {v : V} {σ : L2.St} {H H0 : Hp} {Q : VK} {D : Ends} (hs : σ[2]? = some (some (.ref a))) (hd : H dd = some (.xd [(f, v)])) (s0 : Same H0 H)
    (hQ : D.rt = Q) (k : ∀ H' t, Same H0 H' → H0 t = none → H' t = some (.tup [.int i, v]) → Q (.ref t) H') :
    tRet (tTup (tCons (tC (.int i)) (tCons (tXf a (.ref Ca) (some dd) Ca f (tVar 2)) tNil))) D σ H := by
  refine ⟨_, hs, rfl, rfl, dd, _, v, rfl, hd, (by simp [List.lookup]), (by show 2 ≤ sizeLine; decide), fun t ht => ?_⟩
  rw [hQ]
  exact k _ t (fun b o q => by rw [upd_ne (ne_of_none (s0 b o q) ht)]; exact s0 b o q) (s0.free ht) upd_same
section
variable {P : Program} {w : World} {K : PySem.W.Frag} {mg : Str → Option Value} {base : Heap} {f fR : Addr} {fd fdR : FuncData}
theorem scC : FnScope ["number", "thing", "e"] ["number", "thing"] (defScope (top 28)) := ⟨rfl, rfl, rfl, by decide +kernel, rfl, by decide +kernel, by decide +kernel⟩
theorem ok_caught (F : FnP K "_law_caught" 28 f fd) (T : Tx K mg) (FR : FnP K "_law_raise" 27 fR fdR) (gR : mg "_law_raise" = some (.ref fR)) : FnOk P w K mg base CX0 5 f fd ["number", "thing"] (spCaught K) := by
  have GR : FnOk P w K mg base (L2.CX P w) 4 fR fdR ["number", "thing"] (spRaise K) := ok_raise FR T
  have bR : Binds K fdR ["number", "thing"] [] := FR.bindsN fun _ _ _ _ _ _ us hl => match us, hl with | [_, _], _ => rfl
  refine F.ok scC (fun vs H Q E h => ?_) (fun cdv A outer s H vs Q E hr h => ?_)
  · obtain ⟨i, v, _, rfl, _⟩ := h
    rfl
  · obtain ⟨i, v, hi, rfl, k⟩ := h
    refine ⟨_, PSs.nox (pss_cons (ps_try_cl rfl rfl scC.nd takes0
      (ClOk.as (i := 2) ⟨rfl, by decide, .inl (T.cls 0 (by decide)).1⟩ rfl rfl (fun a oe cls d pn hz hf => pss_one (ps_ret (pe_tup (pa_cons pe_int (pa_cons (pe_xf (T.cls 0 (by decide)).2.1.xf (T.no 0 (by decide) (by decide)) hz hf (pv 2)) pa_nil)))))
      (ClOk.as (i := 2) ⟨rfl, by decide, .inl (T.cls 1 (by decide)).1⟩ rfl rfl (fun a oe cls d pn hz hf => pss_one (ps_ret (pe_tup (pa_cons pe_int (pa_cons (pe_xf (T.cls 1 (by decide)).2.1.xf (T.no 1 (by decide) (by decide)) hz hf (pv 2)) pa_nil)))))
      (ClOk.as (i := 2) ⟨rfl, by decide, .inl (T.cls 2 (by decide)).1⟩ rfl rfl (fun a oe cls d pn hz hf => pss_one (ps_ret (pe_tup (pa_cons pe_int (pa_cons (pe_xf (T.cls 2 (by decide)).2.1.xf (T.no 2 (by decide) (by decide)) hz hf (pv 2)) pa_nil)))))
      (ClOk.as (i := 2) ⟨rfl, by decide, .inl (T.cls 3 (by decide)).1⟩ rfl rfl (fun a oe cls d pn hz hf => pss_one (ps_ret (pe_tup (pa_cons pe_int (pa_cons (pe_xf (T.cls 3 (by decide)).2.1.xf (T.no 3 (by decide) (by decide)) hz hf (pv 2)) pa_nil)))))
      (ClOk.as (i := 2) ⟨rfl, by decide, .inl (T.cls 4 (by decide)).1⟩ rfl rfl (fun a oe cls d pn hz hf => pss_one (ps_ret (pe_tup (pa_cons pe_int (pa_cons (pe_xf (T.cls 4 (by decide)).2.1.xf (T.no 4 (by decide) (by decide)) hz hf (pv 2)) pa_nil)))))
      (ClOk.as (i := 2) ⟨rfl, by decide, .inl (T.cls 5 (by decide)).1⟩ rfl rfl (fun a oe cls d pn hz hf => pss_one (ps_ret (pe_tup (pa_cons pe_int (pa_cons (pe_xf (T.cls 5 (by decide)).2.1.xf (T.no 5 (by decide) (by decide)) hz hf (pv 2)) pa_nil)))))
      (ClOk.as (i := 2) ⟨rfl, by decide, .inl (T.cls 6 (by decide)).1⟩ rfl rfl (fun a oe cls d pn hz hf => pss_one (ps_ret (pe_tup (pa_cons pe_int (pa_cons (pe_xf (T.cls 6 (by decide)).2.1.xf (T.no 6 (by decide) (by decide)) hz hf (pv 2)) pa_nil)))))
      (ClOk.as (i := 2) ⟨rfl, by decide, .inl (T.cls 7 (by decide)).1⟩ rfl rfl (fun a oe cls d pn hz hf => pss_one (ps_ret (pe_tup (pa_cons pe_int (pa_cons (pe_xf (T.cls 7 (by decide)).2.1.xf (T.no 7 (by decide) (by decide)) hz hf (pv 2)) pa_nil)))))
      (ClOk.as (i := 2) ⟨rfl, by decide, .inl (T.cls 8 (by decide)).1⟩ rfl rfl (fun a oe cls d pn hz hf => pss_one (ps_ret (pe_tup (pa_cons pe_int (pa_cons (pe_xf (T.cls 8 (by decide)).2.1.xf (T.no 8 (by decide) (by decide)) hz hf (pv 2)) pa_nil)))))
      (ClOk.as (i := 2) ⟨rfl, by decide, .inl (T.cls 9 (by decide)).1⟩ rfl rfl (fun a oe cls d pn hz hf => pss_one (ps_ret (pe_tup (pa_cons pe_int (pa_cons (pe_xf (T.cls 9 (by decide)).2.1.xf (T.no 9 (by decide) (by decide)) hz hf (pv 2)) pa_nil)))))
      (ClOk.as (i := 2) ⟨rfl, by decide, .inl (T.cls 10 (by decide)).1⟩ rfl rfl (fun a oe cls d pn hz hf => pss_one (ps_ret (pe_tup (pa_cons pe_int (pa_cons (pe_xf (T.cls 10 (by decide)).2.1.xf (T.no 10 (by decide) (by decide)) hz hf (pv 2)) pa_nil)))))
      (ClOk.as (i := 2) ⟨rfl, by decide, .inl (T.cls 11 (by decide)).1⟩ rfl rfl (fun a oe cls d pn hz hf => pss_one (ps_ret (pe_tup (pa_cons pe_int (pa_cons (pe_xf (T.cls 11 (by decide)).2.1.xf (T.no 11 (by decide) (by decide)) hz hf (pv 2)) pa_nil)))))
      (ClOk.as (i := 2) ⟨rfl, by decide, .inl (T.cls 12 (by decide)).1⟩ rfl rfl (fun a oe cls d pn hz hf => pss_one (ps_ret (pe_tup (pa_cons pe_int (pa_cons (pe_xf (T.cls 12 (by decide)).2.1.xf (T.no 12 (by decide) (by decide)) hz hf (pv 2)) pa_nil)))))
      (ClOk.as (i := 2) ⟨rfl, by decide, .inl (T.cls 13 (by decide)).1⟩ rfl rfl (fun a oe cls d pn hz hf => pss_one (ps_ret (pe_tup (pa_cons pe_int (pa_cons (pe_xf (T.cls 13 (by decide)).2.1.xf (T.no 13 (by decide) (by decide)) hz hf (pv 2)) pa_nil)))))
      (ClOk.as (i := 2) ⟨rfl, by decide, .inl (T.cls 14 (by decide)).1⟩ rfl rfl (fun a oe cls d pn hz hf => pss_one (ps_ret (pe_tup (pa_cons pe_int (pa_cons (pe_xf (T.cls 14 (by decide)).2.1.xf (T.no 14 (by decide) (by decide)) hz hf (pv 2)) pa_nil)))))
      (ClOk.as (i := 2) ⟨rfl, by decide, .inl (T.cls 15 (by decide)).1⟩ rfl rfl (fun a oe cls d pn hz hf => pss_one (ps_ret (pe_tup (pa_cons pe_int (pa_cons (pe_xf (T.cls 15 (by decide)).2.1.xf (T.no 15 (by decide) (by decide)) hz hf (pv 2)) pa_nil)))))
      (ClOk.as (i := 2) ⟨rfl, by decide, .inl (T.cls 16 (by decide)).1⟩ rfl rfl (fun a oe cls d pn hz hf => pss_one (ps_ret (pe_tup (pa_cons pe_int (pa_cons (pe_xf (T.cls 16 (by decide)).2.1.xf (T.no 16 (by decide) (by decide)) hz hf (pv 2)) pa_nil)))))
      (ClOk.as (i := 2) ⟨rfl, by decide, .inl (T.cls 17 (by decide)).1⟩ rfl rfl (fun a oe cls d pn hz hf => pss_one (ps_ret (pe_tup (pa_cons pe_int (pa_cons (pe_xf (T.cls 17 (by decide)).2.1.xf (T.no 17 (by decide) (by decide)) hz hf (pv 2)) pa_nil)))))
      (ClOk.as (i := 2) ⟨rfl, by decide, .inl (T.cls 18 (by decide)).1⟩ rfl rfl (fun a oe cls d pn hz hf => pss_one (ps_ret (pe_tup (pa_cons pe_int (pa_cons (pe_xf (T.cls 18 (by decide)).2.1.xf (T.no 18 (by decide) (by decide)) hz hf (pv 2)) pa_nil)))))
      (ClOk.as (i := 2) ⟨rfl, by decide, .inl (T.cls 19 (by decide)).1⟩ rfl rfl (fun a oe cls d pn hz hf => pss_one (ps_ret (pe_ifExp
        (pt_cmpR (show OpR _ (compareOp .Eq) (rEqD K) from op_eqD hr.units) (pe_tup (pa_cons (pe_xf (T.cls 19 (by decide)).2.1.xf (T.no 19 (by decide) (by decide)) hz hf (pv 2)) (pa_cons (pe_xf (T.cls 19 (by decide)).2.1.xf (T.no 19 (by decide) (by decide)) hz hf (pv 2)) pa_nil)))
          (pe_tup (pa_cons pe_int (pa_cons (pe_tup (pa_cons pe_int (pa_cons pe_int pa_nil))) pa_nil))) (nomark _))
        (pe_tup (pa_cons pe_int (pa_cons (pe_xf (T.cls 19 (by decide)).2.1.xf (T.no 19 (by decide) (by decide)) hz hf (pv 2)) pa_nil))) pe_non)))
      (ClOk.bare ⟨rfl, by decide, .inl (T.cls 20 (by decide)).1⟩ (fun a oe cls d pn hz hf => pss_one (ps_ret (pe_tup (pa_cons pe_int (pa_cons (pv 1) pa_nil))))) .nil)))))))))))))))))))))
      (fun W pn xe tk _ => pss_one (ps_expr (pe_callS GR hr rfl gR FR.kp bR (fun σ => passAt tk σ) (pa_cons (pv 0) (pa_cons (pv 1) pa_nil))))))
      (pss_one (ps_ret pe_non))), ?_⟩
    refine ⟨_, rfl, _, rfl, i, v, hi, rfl, fun d H' R => ?_⟩
    obtain ⟨s0, r1, r2⟩ := R
    obtain rfl | rfl | rfl | rfl | rfl | rfl | rfl | rfl | rfl | rfl | rfl | rfl | rfl | rfl | rfl | rfl | rfl | rfl | rfl | rfl | rfl : i = 0 ∨ i = 1 ∨ i = 2 ∨ i = 3 ∨ i = 4 ∨ i = 5 ∨ i = 6 ∨ i = 7 ∨ i = 8 ∨ i = 9 ∨ i = 10 ∨ i = 11 ∨ i = 12 ∨ i = 13 ∨ i = 14 ∨ i = 15 ∨ i = 16 ∨ i = 17 ∨ i = 18 ∨ i = 19 ∨ i = 20 := by omega
    · obtain ⟨dd, rfl, hdd⟩ := r1 (by decide)
      exact cl_yes (T.exm 0 0 (by decide) (by decide)) fun a na => back_one rfl hdd s0 rfl k
    · obtain ⟨dd, rfl, hdd⟩ := r1 (by decide)
      exact cl_no (T.exm 1 0 (by decide) (by decide)) (cl_yes (T.exm 1 1 (by decide) (by decide)) fun a na => back_one rfl hdd s0 rfl k)
    · obtain ⟨dd, rfl, hdd⟩ := r1 (by decide)
      exact cl_no (T.exm 2 0 (by decide) (by decide)) (cl_no (T.exm 2 1 (by decide) (by decide)) (cl_yes (T.exm 2 2 (by decide) (by decide)) fun a na => back_one rfl hdd s0 rfl k))
    · obtain ⟨dd, rfl, hdd⟩ := r1 (by decide)
      exact cl_no (T.exm 3 0 (by decide) (by decide)) (cl_no (T.exm 3 1 (by decide) (by decide)) (cl_no (T.exm 3 2 (by decide) (by decide)) (cl_yes (T.exm 3 3 (by decide) (by decide)) fun a na => back_one rfl hdd s0 rfl k)))
    · obtain ⟨dd, rfl, hdd⟩ := r1 (by decide)
      exact cl_no (T.exm 4 0 (by decide) (by decide)) (cl_no (T.exm 4 1 (by decide) (by decide)) (cl_no (T.exm 4 2 (by decide) (by decide)) (cl_no (T.exm 4 3 (by decide) (by decide)) (cl_yes (T.exm 4 4 (by decide) (by decide)) fun a na => back_one rfl hdd s0 rfl k))))
    · obtain ⟨dd, rfl, hdd⟩ := r1 (by decide)
      exact cl_no (T.exm 5 0 (by decide) (by decide)) (cl_no (T.exm 5 1 (by decide) (by decide)) (cl_no (T.exm 5 2 (by decide) (by decide)) (cl_no (T.exm 5 3 (by decide) (by decide)) (cl_no (T.exm 5 4 (by decide) (by decide)) (cl_yes (T.exm 5 5 (by decide) (by decide)) fun a na => back_one rfl hdd s0 rfl k)))))
    · obtain ⟨dd, rfl, hdd⟩ := r1 (by decide)
      exact cl_no (T.exm 6 0 (by decide) (by decide)) (cl_no (T.exm 6 1 (by decide) (by decide)) (cl_no (T.exm 6 2 (by decide) (by decide)) (cl_no (T.exm 6 3 (by decide) (by decide)) (cl_no (T.exm 6 4 (by decide) (by decide)) (cl_no (T.exm 6 5 (by decide) (by decide)) (cl_yes (T.exm 6 6 (by decide) (by decide)) fun a na => back_one rfl hdd s0 rfl k))))))
    · obtain ⟨dd, rfl, hdd⟩ := r1 (by decide)
      exact cl_no (T.exm 7 0 (by decide) (by decide)) (cl_no (T.exm 7 1 (by decide) (by decide)) (cl_no (T.exm 7 2 (by decide) (by decide)) (cl_no (T.exm 7 3 (by decide) (by decide)) (cl_no (T.exm 7 4 (by decide) (by decide)) (cl_no (T.exm 7 5 (by decide) (by decide)) (cl_no (T.exm 7 6 (by decide) (by decide)) (cl_yes (T.exm 7 7 (by decide) (by decide)) fun a na => back_one rfl hdd s0 rfl k)))))))
    · obtain ⟨dd, rfl, hdd⟩ := r1 (by decide)
      exact cl_no (T.exm 8 0 (by decide) (by decide)) (cl_no (T.exm 8 1 (by decide) (by decide)) (cl_no (T.exm 8 2 (by decide) (by decide)) (cl_no (T.exm 8 3 (by decide) (by decide)) (cl_no (T.exm 8 4 (by decide) (by decide)) (cl_no (T.exm 8 5 (by decide) (by decide)) (cl_no (T.exm 8 6 (by decide) (by decide)) (cl_no (T.exm 8 7 (by decide) (by decide)) (cl_yes (T.exm 8 8 (by decide) (by decide)) fun a na => back_one rfl hdd s0 rfl k))))))))
    · obtain ⟨dd, rfl, hdd⟩ := r1 (by decide)
      exact cl_no (T.exm 9 0 (by decide) (by decide)) (cl_no (T.exm 9 1 (by decide) (by decide)) (cl_no (T.exm 9 2 (by decide) (by decide)) (cl_no (T.exm 9 3 (by decide) (by decide)) (cl_no (T.exm 9 4 (by decide) (by decide)) (cl_no (T.exm 9 5 (by decide) (by decide)) (cl_no (T.exm 9 6 (by decide) (by decide)) (cl_no (T.exm 9 7 (by decide) (by decide)) (cl_no (T.exm 9 8 (by decide) (by decide)) (cl_yes (T.exm 9 9 (by decide) (by decide)) fun a na => back_one rfl hdd s0 rfl k)))))))))
    · obtain ⟨dd, rfl, hdd⟩ := r1 (by decide)
      exact cl_no (T.exm 10 0 (by decide) (by decide)) (cl_no (T.exm 10 1 (by decide) (by decide)) (cl_no (T.exm 10 2 (by decide) (by decide)) (cl_no (T.exm 10 3 (by decide) (by decide)) (cl_no (T.exm 10 4 (by decide) (by decide)) (cl_no (T.exm 10 5 (by decide) (by decide)) (cl_no (T.exm 10 6 (by decide) (by decide)) (cl_no (T.exm 10 7 (by decide) (by decide)) (cl_no (T.exm 10 8 (by decide) (by decide)) (cl_no (T.exm 10 9 (by decide) (by decide)) (cl_yes (T.exm 10 10 (by decide) (by decide)) fun a na => back_one rfl hdd s0 rfl k))))))))))
    · obtain ⟨dd, rfl, hdd⟩ := r1 (by decide)
      exact cl_no (T.exm 11 0 (by decide) (by decide)) (cl_no (T.exm 11 1 (by decide) (by decide)) (cl_no (T.exm 11 2 (by decide) (by decide)) (cl_no (T.exm 11 3 (by decide) (by decide)) (cl_no (T.exm 11 4 (by decide) (by decide)) (cl_no (T.exm 11 5 (by decide) (by decide)) (cl_no (T.exm 11 6 (by decide) (by decide)) (cl_no (T.exm 11 7 (by decide) (by decide)) (cl_no (T.exm 11 8 (by decide) (by decide)) (cl_no (T.exm 11 9 (by decide) (by decide)) (cl_no (T.exm 11 10 (by decide) (by decide)) (cl_yes (T.exm 11 11 (by decide) (by decide)) fun a na => back_one rfl hdd s0 rfl k)))))))))))
    · obtain ⟨dd, rfl, hdd⟩ := r1 (by decide)
      exact cl_no (T.exm 12 0 (by decide) (by decide)) (cl_no (T.exm 12 1 (by decide) (by decide)) (cl_no (T.exm 12 2 (by decide) (by decide)) (cl_no (T.exm 12 3 (by decide) (by decide)) (cl_no (T.exm 12 4 (by decide) (by decide)) (cl_no (T.exm 12 5 (by decide) (by decide)) (cl_no (T.exm 12 6 (by decide) (by decide)) (cl_no (T.exm 12 7 (by decide) (by decide)) (cl_no (T.exm 12 8 (by decide) (by decide)) (cl_no (T.exm 12 9 (by decide) (by decide)) (cl_no (T.exm 12 10 (by decide) (by decide)) (cl_no (T.exm 12 11 (by decide) (by decide)) (cl_yes (T.exm 12 12 (by decide) (by decide)) fun a na => back_one rfl hdd s0 rfl k))))))))))))
    · obtain ⟨dd, rfl, hdd⟩ := r1 (by decide)
      exact cl_no (T.exm 13 0 (by decide) (by decide)) (cl_no (T.exm 13 1 (by decide) (by decide)) (cl_no (T.exm 13 2 (by decide) (by decide)) (cl_no (T.exm 13 3 (by decide) (by decide)) (cl_no (T.exm 13 4 (by decide) (by decide)) (cl_no (T.exm 13 5 (by decide) (by decide)) (cl_no (T.exm 13 6 (by decide) (by decide)) (cl_no (T.exm 13 7 (by decide) (by decide)) (cl_no (T.exm 13 8 (by decide) (by decide)) (cl_no (T.exm 13 9 (by decide) (by decide)) (cl_no (T.exm 13 10 (by decide) (by decide)) (cl_no (T.exm 13 11 (by decide) (by decide)) (cl_no (T.exm 13 12 (by decide) (by decide)) (cl_yes (T.exm 13 13 (by decide) (by decide)) fun a na => back_one rfl hdd s0 rfl k)))))))))))))
    · obtain ⟨dd, rfl, hdd⟩ := r1 (by decide)
      exact cl_no (T.exm 14 0 (by decide) (by decide)) (cl_no (T.exm 14 1 (by decide) (by decide)) (cl_no (T.exm 14 2 (by decide) (by decide)) (cl_no (T.exm 14 3 (by decide) (by decide)) (cl_no (T.exm 14 4 (by decide) (by decide)) (cl_no (T.exm 14 5 (by decide) (by decide)) (cl_no (T.exm 14 6 (by decide) (by decide)) (cl_no (T.exm 14 7 (by decide) (by decide)) (cl_no (T.exm 14 8 (by decide) (by decide)) (cl_no (T.exm 14 9 (by decide) (by decide)) (cl_no (T.exm 14 10 (by decide) (by decide)) (cl_no (T.exm 14 11 (by decide) (by decide)) (cl_no (T.exm 14 12 (by decide) (by decide)) (cl_no (T.exm 14 13 (by decide) (by decide)) (cl_yes (T.exm 14 14 (by decide) (by decide)) fun a na => back_one rfl hdd s0 rfl k))))))))))))))
    · obtain ⟨dd, rfl, hdd⟩ := r1 (by decide)
      exact cl_no (T.exm 15 0 (by decide) (by decide)) (cl_no (T.exm 15 1 (by decide) (by decide)) (cl_no (T.exm 15 2 (by decide) (by decide)) (cl_no (T.exm 15 3 (by decide) (by decide)) (cl_no (T.exm 15 4 (by decide) (by decide)) (cl_no (T.exm 15 5 (by decide) (by decide)) (cl_no (T.exm 15 6 (by decide) (by decide)) (cl_no (T.exm 15 7 (by decide) (by decide)) (cl_no (T.exm 15 8 (by decide) (by decide)) (cl_no (T.exm 15 9 (by decide) (by decide)) (cl_no (T.exm 15 10 (by decide) (by decide)) (cl_no (T.exm 15 11 (by decide) (by decide)) (cl_no (T.exm 15 12 (by decide) (by decide)) (cl_no (T.exm 15 13 (by decide) (by decide)) (cl_no (T.exm 15 14 (by decide) (by decide)) (cl_yes (T.exm 15 15 (by decide) (by decide)) fun a na => back_one rfl hdd s0 rfl k)))))))))))))))
    · obtain ⟨dd, rfl, hdd⟩ := r1 (by decide)
      exact cl_no (T.exm 16 0 (by decide) (by decide)) (cl_no (T.exm 16 1 (by decide) (by decide)) (cl_no (T.exm 16 2 (by decide) (by decide)) (cl_no (T.exm 16 3 (by decide) (by decide)) (cl_no (T.exm 16 4 (by decide) (by decide)) (cl_no (T.exm 16 5 (by decide) (by decide)) (cl_no (T.exm 16 6 (by decide) (by decide)) (cl_no (T.exm 16 7 (by decide) (by decide)) (cl_no (T.exm 16 8 (by decide) (by decide)) (cl_no (T.exm 16 9 (by decide) (by decide)) (cl_no (T.exm 16 10 (by decide) (by decide)) (cl_no (T.exm 16 11 (by decide) (by decide)) (cl_no (T.exm 16 12 (by decide) (by decide)) (cl_no (T.exm 16 13 (by decide) (by decide)) (cl_no (T.exm 16 14 (by decide) (by decide)) (cl_no (T.exm 16 15 (by decide) (by decide)) (cl_yes (T.exm 16 16 (by decide) (by decide)) fun a na => back_one rfl hdd s0 rfl k))))))))))))))))
    · obtain ⟨dd, rfl, hdd⟩ := r1 (by decide)
      exact cl_no (T.exm 17 0 (by decide) (by decide)) (cl_no (T.exm 17 1 (by decide) (by decide)) (cl_no (T.exm 17 2 (by decide) (by decide)) (cl_no (T.exm 17 3 (by decide) (by decide)) (cl_no (T.exm 17 4 (by decide) (by decide)) (cl_no (T.exm 17 5 (by decide) (by decide)) (cl_no (T.exm 17 6 (by decide) (by decide)) (cl_no (T.exm 17 7 (by decide) (by decide)) (cl_no (T.exm 17 8 (by decide) (by decide)) (cl_no (T.exm 17 9 (by decide) (by decide)) (cl_no (T.exm 17 10 (by decide) (by decide)) (cl_no (T.exm 17 11 (by decide) (by decide)) (cl_no (T.exm 17 12 (by decide) (by decide)) (cl_no (T.exm 17 13 (by decide) (by decide)) (cl_no (T.exm 17 14 (by decide) (by decide)) (cl_no (T.exm 17 15 (by decide) (by decide)) (cl_no (T.exm 17 16 (by decide) (by decide)) (cl_yes (T.exm 17 17 (by decide) (by decide)) fun a na => back_one rfl hdd s0 rfl k)))))))))))))))))
    · obtain ⟨dd, rfl, hdd⟩ := r1 (by decide)
      exact cl_no (T.exm 18 0 (by decide) (by decide)) (cl_no (T.exm 18 1 (by decide) (by decide)) (cl_no (T.exm 18 2 (by decide) (by decide)) (cl_no (T.exm 18 3 (by decide) (by decide)) (cl_no (T.exm 18 4 (by decide) (by decide)) (cl_no (T.exm 18 5 (by decide) (by decide)) (cl_no (T.exm 18 6 (by decide) (by decide)) (cl_no (T.exm 18 7 (by decide) (by decide)) (cl_no (T.exm 18 8 (by decide) (by decide)) (cl_no (T.exm 18 9 (by decide) (by decide)) (cl_no (T.exm 18 10 (by decide) (by decide)) (cl_no (T.exm 18 11 (by decide) (by decide)) (cl_no (T.exm 18 12 (by decide) (by decide)) (cl_no (T.exm 18 13 (by decide) (by decide)) (cl_no (T.exm 18 14 (by decide) (by decide)) (cl_no (T.exm 18 15 (by decide) (by decide)) (cl_no (T.exm 18 16 (by decide) (by decide)) (cl_no (T.exm 18 17 (by decide) (by decide)) (cl_yes (T.exm 18 18 (by decide) (by decide)) fun a na => back_one rfl hdd s0 rfl k))))))))))))))))))
    · obtain ⟨dd, t, rfl, hdd, ht⟩ := r2 rfl
      refine cl_no (T.exm 19 0 (by decide) (by decide)) (cl_no (T.exm 19 1 (by decide) (by decide)) (cl_no (T.exm 19 2 (by decide) (by decide)) (cl_no (T.exm 19 3 (by decide) (by decide)) (cl_no (T.exm 19 4 (by decide) (by decide)) (cl_no (T.exm 19 5 (by decide) (by decide)) (cl_no (T.exm 19 6 (by decide) (by decide)) (cl_no (T.exm 19 7 (by decide) (by decide)) (cl_no (T.exm 19 8 (by decide) (by decide)) (cl_no (T.exm 19 9 (by decide) (by decide)) (cl_no (T.exm 19 10 (by decide) (by decide)) (cl_no (T.exm 19 11 (by decide) (by decide)) (cl_no (T.exm 19 12 (by decide) (by decide)) (cl_no (T.exm 19 13 (by decide) (by decide)) (cl_no (T.exm 19 14 (by decide) (by decide)) (cl_no (T.exm 19 15 (by decide) (by decide)) (cl_no (T.exm 19 16 (by decide) (by decide)) (cl_no (T.exm 19 17 (by decide) (by decide)) (cl_no (T.exm 19 18 (by decide) (by decide)) (cl_yes (T.exm 19 19 (by decide) (by decide)) fun a na => ?_)))))))))))))))))))
      refine ⟨_, rfl, rfl, rfl, dd, _, _, rfl, hdd, lk_left, _, rfl, rfl, rfl, dd, _, _, rfl, hdd, lk_row, (by show 2 ≤ sizeLine; decide), fun t1 n1 => ?_⟩
      refine ⟨(by show 2 ≤ sizeLine; decide), fun t2 n2 => ⟨(by show 2 ≤ sizeLine; decide), fun t3 n3 => ?_⟩⟩
      have e1 : upd (upd (upd H' t1 (.tup [.int 5, .ref t])) t2 (.tup [.int 0, .int 1])) t3 (.tup [.int 5, .ref t2]) t1 = some (.tup [.int 5, .ref t]) := by
        have h1 : upd H' t1 (.tup [.int 5, .ref t]) t1 = some (.tup [.int 5, .ref t]) := upd_same
        have h2 : upd (upd H' t1 (.tup [.int 5, .ref t])) t2 (.tup [.int 0, .int 1]) t1 = some (.tup [.int 5, .ref t]) := by rw [upd_ne (ne_of_none h1 n2)]; exact h1
        rw [upd_ne (ne_of_none h2 n3)]
        exact h2
      have et : upd (upd (upd H' t1 (.tup [.int 5, .ref t])) t2 (.tup [.int 0, .int 1])) t3 (.tup [.int 5, .ref t2]) t = some (.tup [.int 0, .int 1]) := by
        have h1 : upd H' t1 (.tup [.int 5, .ref t]) t = some (.tup [.int 0, .int 1]) := by rw [upd_ne (ne_of_none ht n1)]; exact ht
        have h2 : upd (upd H' t1 (.tup [.int 5, .ref t])) t2 (.tup [.int 0, .int 1]) t = some (.tup [.int 0, .int 1]) := by rw [upd_ne (ne_of_none h1 n2)]; exact h1
        rw [upd_ne (ne_of_none h2 n3)]
        exact h2
      have e2 : upd (upd (upd H' t1 (.tup [.int 5, .ref t])) t2 (.tup [.int 0, .int 1])) t3 (.tup [.int 5, .ref t2]) t2 = some (.tup [.int 0, .int 1]) := by
        have h2 : upd (upd H' t1 (.tup [.int 5, .ref t])) t2 (.tup [.int 0, .int 1]) t2 = some (.tup [.int 0, .int 1]) := upd_same
        rw [upd_ne (ne_of_none h2 n3)]
        exact h2
      have two : ∀ {H2 : Hp} {b : Addr}, H2 b = some (.tup [.int 0, .int 1]) → Dp K H2 (.ref b) (.tuple [.int 0, .int 1]) := fun h => .tup (SqT.of h) (.cons (.int 0) (.cons (.int 1) .nil))
      refine ⟨.tuple [.int 5, .tuple [.int 0, .int 1]], .tuple [.int 5, .tuple [.int 0, .int 1]], .tup (SqT.of e1) (.cons (.int 5) (.cons (two et) .nil)), .tup (SqT.of upd_same) (.cons (.int 5) (.cons (two e2) .nil)), by decide, by decide, _, rfl, ?_⟩
      rw [show PyData.eqv (.tuple [.int 5, .tuple [.int 0, .int 1]]) (.tuple [.int 5, .tuple [.int 0, .int 1]]) = true from SeqAt.eqv_refl _ (by decide)]
      have s3 : Same H (upd (upd (upd H' t1 (.tup [.int 5, .ref t])) t2 (.tup [.int 0, .int 1])) t3 (.tup [.int 5, .ref t2])) := fun b o q => by
        have h0 := s0 b o q
        have h1 : upd H' t1 (.tup [.int 5, .ref t]) b = some o := by rw [upd_ne (ne_of_none h0 n1)]; exact h0
        have h2 : upd (upd H' t1 (.tup [.int 5, .ref t])) t2 (.tup [.int 0, .int 1]) b = some o := by rw [upd_ne (ne_of_none h1 n2)]; exact h1
        rw [upd_ne (ne_of_none h2 n3)]
        exact h2
      have ed : upd (upd (upd H' t1 (.tup [.int 5, .ref t])) t2 (.tup [.int 0, .int 1])) t3 (.tup [.int 5, .ref t2]) dd = some (.xd [("row", .ref t), ("left", .int 5), ("right", v)]) := by
        have h1 : upd H' t1 (.tup [.int 5, .ref t]) dd = some (.xd [("row", .ref t), ("left", .int 5), ("right", v)]) := by rw [upd_ne (ne_of_none hdd n1)]; exact hdd
        have h2 : upd (upd H' t1 (.tup [.int 5, .ref t])) t2 (.tup [.int 0, .int 1]) dd = some (.xd [("row", .ref t), ("left", .int 5), ("right", v)]) := by rw [upd_ne (ne_of_none h1 n2)]; exact h1
        rw [upd_ne (ne_of_none h2 n3)]
        exact h2
      refine iteT ⟨_, rfl, rfl, rfl, dd, _, _, rfl, ed, lk_right, (by show 2 ≤ sizeLine; decide), fun t4 n4 => ?_⟩
      exact k _ t4 (fun b o q => by rw [upd_ne (ne_of_none (s3 b o q) n4)]; exact s3 b o q) (s3.free n4) upd_same
    · refine cl_no (T.exm 20 0 (by decide) (by decide)) (cl_no (T.exm 20 1 (by decide) (by decide)) (cl_no (T.exm 20 2 (by decide) (by decide)) (cl_no (T.exm 20 3 (by decide) (by decide)) (cl_no (T.exm 20 4 (by decide) (by decide)) (cl_no (T.exm 20 5 (by decide) (by decide)) (cl_no (T.exm 20 6 (by decide) (by decide)) (cl_no (T.exm 20 7 (by decide) (by decide)) (cl_no (T.exm 20 8 (by decide) (by decide)) (cl_no (T.exm 20 9 (by decide) (by decide)) (cl_no (T.exm 20 10 (by decide) (by decide)) (cl_no (T.exm 20 11 (by decide) (by decide)) (cl_no (T.exm 20 12 (by decide) (by decide)) (cl_no (T.exm 20 13 (by decide) (by decide)) (cl_no (T.exm 20 14 (by decide) (by decide)) (cl_no (T.exm 20 15 (by decide) (by decide)) (cl_no (T.exm 20 16 (by decide) (by decide)) (cl_no (T.exm 20 17 (by decide) (by decide)) (cl_no (T.exm 20 18 (by decide) (by decide)) (cl_no (T.exm 20 19 (by decide) (by decide)) (cl_yes (T.exm 20 20 (by decide) (by decide)) fun a na => ?_))))))))))))))))))))
      refine ⟨_, rfl, (by show 2 ≤ sizeLine; decide), fun t ht => ?_⟩
      exact k _ t (fun b o q => by rw [upd_ne (ne_of_none (s0 b o q) ht)]; exact s0 b o q) (s0.free ht) upd_same
theorem scIs : FnScope ["number", "thing"] ["number", "thing"] (defScope (top 29)) := ⟨rfl, rfl, rfl, by decide +kernel, rfl, by decide +kernel, by decide +kernel⟩
theorem ok_base (F : FnP K "_law_is_base" 29 f fd) (T : Tx K mg) (FR : FnP K "_law_raise" 27 fR fdR) (gR : mg "_law_raise" = some (.ref fR)) : FnOk P w K mg base CX0 5 f fd ["number", "thing"] spBase := by
  have GR : FnOk P w K mg base (L2.CX P w) 4 fR fdR ["number", "thing"] (spRaise K) := ok_raise FR T
  have bR : Binds K fdR ["number", "thing"] [] := FR.bindsN fun _ _ _ _ _ _ us hl => match us, hl with | [_, _], _ => rfl
  refine F.ok scIs (fun vs H Q E h => ?_) (fun cdv A outer s H vs Q E hr h => ?_)
  · obtain ⟨i, v, _, rfl, _⟩ := h
    rfl
  · obtain ⟨i, v, hi, rfl, k⟩ := h
    refine ⟨_, PSs.nox (pss_cons (ps_try_cl rfl rfl scIs.nd takes0
      (ClOk.bare ⟨rfl, by decide, .inl T.sE⟩ (fun a oe cls d pn hz hf => pss_one (ps_ret pe_bl)) .nil)
      (fun W pn xe tk _ => pss_one (ps_expr (pe_callS GR hr rfl gR FR.kp bR (fun σ => passAt tk σ) (pa_cons (pv 0) (pa_cons (pv 1) pa_nil))))))
      (pss_one (ps_ret pe_bl))), ?_⟩
    exact ⟨_, rfl, _, rfl, i, v, hi, rfl, fun d H' R => cl_yes (T.exS i hi) fun a na => k H' R.1⟩
end
end K00

set_option Elab.async false
set_option linter.all false
set_option maxRecDepth 100000
set_option maxHeartbeats 8000000
namespace K00
open PySem PySem.Spec PyProof.Rows L2 Say
def spLaw (K : PySem.W.Frag) : Sp := fun vs H Q _ => ∃ (a : Addr) (ns : List Int), vs = [.ref a] ∧ SqL K H a (ns.map V.int) ∧ ∀ H', Q (.bl true) H'
/-- the eight things that may be drawn, as data -/
theorem thing_data {K : PySem.W.Frag} {t l : Addr} {v : V} (i : Int) (hv : v ∈ [V.int 0, .int (-1), .non, .str "words", .ref t, .ref l, .bl true, .int 7]) :
    ∃ d, SeqAt.shaped (.tuple [.int i, d]) = true ∧ PyData.canLay0 (.tuple [.int i, d]) = true ∧ ∀ H : Hp, H t = some (.tup [.int 1, .int 2]) → H l = some (.lst [.int 3]) → Dp K H v d := by
  simp only [List.mem_cons, List.not_mem_nil, or_false] at hv
  rcases hv with rfl | rfl | rfl | rfl | rfl | rfl | rfl | rfl
  · exact ⟨.int 0, rfl, rfl, fun H _ _ => .int 0⟩
  · exact ⟨.int (-1), rfl, rfl, fun H _ _ => .int (-1)⟩
  · exact ⟨.none, rfl, rfl, fun H _ _ => .non⟩
  · have hw : PyData.canLay0 (.str "words") = true := by decide +kernel
    have e : PyData.canLay0 (.tuple [.int i, .str "words"]) = true := by simp only [PyData.canLay0, PyData.canLayAll0] at hw ⊢; rw [hw]; rfl
    exact ⟨.str "words", by unfold SeqAt.shaped; rw [e]; rfl, e, fun H _ _ => .str "words"⟩
  · exact ⟨.tuple [.int 1, .int 2], rfl, rfl, fun H h _ => .tup (SqT.of h) (.cons (.int 1) (.cons (.int 2) .nil))⟩
  · exact ⟨.list [.int 3], rfl, rfl, fun H _ h => .lst (SqL.of h) (.cons (.int 3) .nil)⟩
  · exact ⟨.bool true, rfl, rfl, fun H _ _ => .bl true⟩
  · exact ⟨.int 7, rfl, rfl, fun H _ _ => .int 7⟩
theorem two_keep {H : Hp} {t p : Addr} {o u : HO} (h : H t = some o) (hp : H p = none) : upd H p u t = some o := by
  rw [upd_ne (ne_of_none h hp)]
  exact h
section
variable {P : Program} {w : World} {K : PySem.W.Frag} {mg : Str → Option Value} {base : Heap} {f : Addr} {fd : FuncData}
/-- where the law's helpers stand -/
structure Hl (K : PySem.W.Frag) (mg : Str → Option Value) (f24 f25 f26 f27 f28 f29 : Addr) (d24 d25 d26 d27 d28 d29 : FuncData) : Prop where
  F24 : FnP K "_law_box" 24 f24 d24
  F25 : FnP K "_law_take" 25 f25 d25
  F26 : FnP K "_law_pick" 26 f26 d26
  F27 : FnP K "_law_raise" 27 f27 d27
  F28 : FnP K "_law_caught" 28 f28 d28
  F29 : FnP K "_law_is_base" 29 f29 d29
  g24 : mg "_law_box" = some (.ref f24)
  g25 : mg "_law_take" = some (.ref f25)
  g26 : mg "_law_pick" = some (.ref f26)
  g27 : mg "_law_raise" = some (.ref f27)
  g28 : mg "_law_caught" = some (.ref f28)
  g29 : mg "_law_is_base" = some (.ref f29)
theorem scL : FnScope ["script", "box", "number", "thing"] ["script"] (defScope (top 30)) := ⟨rfl, rfl, rfl, by decide +kernel, rfl, by decide +kernel, by decide +kernel⟩
theorem ok_law {f24 f25 f26 f27 f28 f29 : Addr} {d24 d25 d26 d27 d28 d29 : FuncData} (F : FnP K "law" 30 f fd) (T : Tx K mg) (L : Hl K mg f24 f25 f26 f27 f28 f29 d24 d25 d26 d27 d28 d29) :
    FnOk P w K mg base CX0 6 f fd ["script"] (spLaw K) := by
  have GB : FnOk P w K mg base CX0 2 f24 d24 ["script", "k"] (spBox K) := ok_box L.F24 T.bl
  have bB : Binds K d24 ["script", "k"] [] := L.F24.bindsN fun _ _ _ _ _ _ us hl => match us, hl with | [_, _], _ => rfl
  have GP : FnOk P w K mg base CX0 3 f26 d26 ["box", "some"] (spPick K) := ok_pick L.F26 T.bl L.F25 L.g25
  have bP : Binds K d26 ["box", "some"] [] := L.F26.bindsN fun _ _ _ _ _ _ us hl => match us, hl with | [_, _], _ => rfl
  have GC : FnOk P w K mg base CX0 5 f28 d28 ["number", "thing"] (spCaught K) := ok_caught L.F28 T L.F27 L.g27
  have bC : Binds K d28 ["number", "thing"] [] := L.F28.bindsN fun _ _ _ _ _ _ us hl => match us, hl with | [_, _], _ => rfl
  have GI : FnOk P w K mg base CX0 5 f29 d29 ["number", "thing"] spBase := ok_base L.F29 T L.F27 L.g27
  have bI : Binds K d29 ["number", "thing"] [] := L.F29.bindsN fun _ _ _ _ _ _ us hl => match us, hl with | [_, _], _ => rfl
  obtain ⟨fd0, F0⟩ := T.f0
  have b0 : Binds K fd0 ["self", "at"] [] := F0.bindsN fun _ _ _ _ _ _ us hl => match us, hl with | [_, _], _ => rfl
  have G0 : FnOk P w K mg base CX0 1 (K00.ini K 0) fd0 ["self", "at"] (spIni "at" (C K 0)) := ok_ini0 F0 (T.cls 0 (by decide)).2.1 (T.no 0 (by decide) (by decide))
  obtain ⟨fd2, F2⟩ := T.f2
  have G2 : FnOk P w K mg base CX0 1 (K00.ini K 2) fd2 ["self", "at"] (spIni "at" (C K 2)) := ok_ini2 F2 (T.cls 2 (by decide)).2.1 (T.no 2 (by decide) (by decide))
  have k2 : ∀ (s : Shared) (v u : Value), K.In s.heap → BindsTo s fd2 ⟨[v], [("at", u)]⟩ ((["self", "at"] : List Str).zip [v, u]) := fun s v u _ => by
    obtain ⟨oc, od, dV, kV, doc, pm, an, cdv, ct, osl, rfl, lk, hcd, hD, hK⟩ := F2.ex
    rcases hD with ⟨_, rfl⟩ | ⟨e, _⟩
    · exact .of_eq rfl
    · exact absurd rfl e
  obtain ⟨fd15, F15⟩ := T.f15
  have G15 : FnOk P w K mg base CX0 1 (K00.ini K 15) fd15 ["self", "at"] (spIni "at" (C K 15)) := ok_ini15 F15 (T.cls 15 (by decide)).2.1 (T.no 15 (by decide) (by decide))
  have k15 : ∀ (s : Shared) (v u : Value), K.In s.heap → BindsTo s fd15 ⟨[v], [("at", u)]⟩ ((["self", "at"] : List Str).zip [v, u]) := fun s v u _ => by
    obtain ⟨oc, od, dV, kV, doc, pm, an, cdv, ct, osl, rfl, lk, hcd, hD, hK⟩ := F15.ex
    rcases hD with ⟨_, rfl⟩ | ⟨e, _⟩
    · exact .of_eq rfl
    · exact absurd rfl e
  refine F.ok scL (fun vs H Q E h => ?_) (fun cdv A outer s H vs Q E hr h => ?_)
  · obtain ⟨a, ns, rfl, _⟩ := h
    rfl
  · obtain ⟨a, ns, rfl, hS, k⟩ := h
    have hr2 : Room 2 _ := hr.mono (by decide)
    have hr3 : Room 3 _ := hr.mono (by decide)
    refine ⟨_, PSs.nox (pss_cons (ps_set (i := 1) scL.nd rfl (Or.inl rfl) (pe_call GB hr2 rfl L.g24 L.F24.kp bB .nil pass0 (pa_cons (pv 0) (pa_cons pe_int pa_nil))))
      (pss_cons (ps_for PassesOwn.never rfl (pi_range1 rfl T.bl.range (pa_cons pe_int pa_nil)) (pg_name (i := 2) scL.nd rfl (Or.inl rfl))
        (pss_cons (ps_set (i := 3) scL.nd rfl (Or.inl rfl) (pe_call GP hr3 rfl L.g26 L.F26.kp bP .nil pass0 (pa_cons (pv 1) (pa_cons (pe_lst (pa_cons pe_int (pa_cons (pe_un un_neg pe_int) (pa_cons pe_non (pa_cons pe_str
            (pa_cons (pe_tup (pa_cons pe_int (pa_cons pe_int pa_nil))) (pa_cons (pe_lst (pa_cons pe_int pa_nil)) (pa_cons pe_bl (pa_cons pe_int pa_nil))))))))) pa_nil))))
          (pss_one (ps_if (PW.pt (pw_or (pt_cmpR (op_neD hr.units) (pe_call GC hr rfl L.g28 L.F28.kp bC .nil pass0 (pa_cons (pv 2) (pa_cons (pv 3) pa_nil))) (pe_tup (pa_cons (pv 2) (pa_cons (pv 3) pa_nil))) (nomark _))
              (pw_or1 (pt_not (pt_val (pe_call GI hr rfl L.g29 L.F29.kp bI .nil pass0 (pa_cons (pv 2) (pa_cons (pv 3) pa_nil)))))))) (pss_one (ps_ret pe_bl)) pss_nil))))
      (pss_one (ps_ret (pe_cmpR (op_eqD hr.units) (pe_tup (pa_cons (pe_exf (pe_exv (T.cls 0 (by decide)).2.1 (T.ini 0 (by decide)) G0 hr2 b0 .nil pass0 (T.cls 0 (by decide)).1 (pa_cons (pe_un un_neg pe_int) pa_nil)))
          (pa_cons (pe_exf (pe_exk (T.cls 2 (by decide)).2.1 (T.ini 2 (by decide)) G2 hr2 k2 pass0 (T.cls 2 (by decide)).1 pe_int))
            (pa_cons (pe_exf (pe_exk (T.cls 15 (by decide)).2.1 (T.ini 15 (by decide)) G15 hr2 k15 pass0 (T.cls 15 (by decide)).1 pe_non)) pa_nil))))
        (pe_tup (pa_cons (pe_un un_neg pe_int) (pa_cons pe_int (pa_cons pe_non pa_nil)))) (nomark _)))))), ?_⟩
    refine ⟨_, rfl, a, ns, 0, rfl, hS, Nat.zero_le _, fun H1 p s1 hp hB => ?_⟩
    refine ⟨21, rfl, by decide, by decide, for_range (lo := 0) (n := 21) (fun i σ H' => ∃ x2 x3, σ = [some (.ref a), some (.ref p), x2, x3] ∧ BoxAt H' p) ⟨none, none, rfl, hB⟩ ?_ ?_⟩
    · rintro i σ H2 hi ⟨x2, x3, rfl, hB2⟩
      rw [Int.zero_add]
      -- the eight things
      refine ⟨_, rfl, _, rfl, (by show 2 ≤ sizeLine; decide), fun t ht => ⟨(by show 1 ≤ sizeLine; decide), fun l hl => ⟨(by show 8 ≤ sizeLine; decide), fun q hq => ?_⟩⟩⟩
      obtain ⟨b0', b1', b2', hp2⟩ := hB2
      have npt : p ≠ t := ne_of_none hp2 ht
      have p1 := two_keep (u := .tup [.int 1, .int 2]) hp2 ht
      have p2 := two_keep (u := .lst [.int 3]) p1 hl
      have p3 := two_keep (u := .lst [.int 0, .int (-1), .non, .str "words", .ref t, .ref l, .bl true, .int 7]) p2 hq
      have t2 := two_keep (u := .lst [.int 3]) (upd_same (H := H2) (a := t) (o := .tup [.int 1, .int 2])) hl
      have t3 := two_keep (u := .lst [.int 0, .int (-1), .non, .str "words", .ref t, .ref l, .bl true, .int 7]) t2 hq
      have l3 := two_keep (u := .lst [.int 0, .int (-1), .non, .str "words", .ref t, .ref l, .bl true, .int 7]) (upd_same (H := upd H2 t (.tup [.int 1, .int 2])) (a := l) (o := .lst [.int 3])) hq
      have npq : p ≠ q := ne_of_none p2 hq
      have npl : p ≠ l := ne_of_none p1 hl
      refine ⟨p, q, _, rfl, ⟨_, _, _, p3⟩, npq, SqL.of upd_same, (by show 0 < 8; decide), (by show 8 ≤ 1000; decide), fun H3 v hv hB3 e3 => ?_⟩
      have t4 := (e3 t npt.symm).trans t3
      have l4 := (e3 l npl.symm).trans l3
      obtain ⟨d, sd, cd, rd⟩ := thing_data (K := K) (i : Int) hv
      refine ⟨_, rfl, _, rfl, i, v, by omega, rfl, fun H4 c s4 hc hc4 => ?_⟩
      refine ⟨_, rfl, _, rfl, (by show 2 ≤ sizeLine; decide), fun u hu => ?_⟩
      have c5 := two_keep (u := .tup [.int i, v]) hc4 hu
      have t5 := two_keep (u := .tup [.int i, v]) (s4 _ _ t4) hu
      have l5 := two_keep (u := .tup [.int i, v]) (s4 _ _ l4) hu
      refine ⟨.tuple [.int i, d], .tuple [.int i, d], .tup (SqT.of c5) (.cons (.int i) (.cons (rd _ t5 l5) .nil)), .tup (SqT.of upd_same) (.cons (.int i) (.cons (rd _ t5 l5) .nil)), sd, sd, _, rfl, ?_⟩
      rw [SeqAt.eqv_refl _ cd]
      refine iteF ⟨_, rfl, _, rfl, i, v, by omega, rfl, fun H6 s6 => ⟨_, rfl, iteF ?_⟩⟩
      obtain ⟨y0, y1, y2, hp3⟩ := hB3
      exact ⟨_, _, rfl, _, _, _, s6 _ _ (two_keep (s4 _ _ hp3) hu)⟩
    · rintro σ H2 ⟨x2, x3, rfl, _⟩
      have at_ : ∀ {v : V}, List.lookup ("at" : Str) [(("at" : Str), v)] = some v := by simp [List.lookup]
      refine ⟨_, rfl, Nat.le_of_ble_eq_true rfl, fun a0 n0 => ⟨a0, _, rfl, upd_same, fun d0 H3 nd0 ne0 I0 => ⟨rfl, a0, C K 0, d0, _, _, rfl, (T.cls 0 (by decide)).2.1.xf, T.no 0 (by decide) (by decide), I0.obj, I0.dic, at_, ?_⟩⟩⟩
      refine fun a1 n1 => ⟨a1, _, rfl, upd_same, fun d1 H4 nd1 ne1 I1 => ⟨rfl, a1, C K 2, d1, _, _, rfl, (T.cls 2 (by decide)).2.1.xf, T.no 2 (by decide) (by decide), I1.obj, I1.dic, at_, ?_⟩⟩
      refine fun a2 n2 => ⟨a2, _, rfl, upd_same, fun d2 H5 nd2 ne2 I2 => ⟨rfl, a2, C K 15, d2, _, _, rfl, (T.cls 15 (by decide)).2.1.xf, T.no 15 (by decide) (by decide), I2.obj, I2.dic, at_, ?_⟩⟩
      refine ⟨(by show 3 ≤ sizeLine; decide), fun t ht => ⟨_, rfl, (by show 3 ≤ sizeLine; decide), fun u hu => ?_⟩⟩
      have t1 := two_keep (u := .tup [.int (-1), .int 3, .non]) (upd_same (H := H5) (a := t) (o := .tup [.int (-1), .int 3, .non])) hu
      refine ⟨.tuple [.int (-1), .int 3, .none], .tuple [.int (-1), .int 3, .none], .tup (SqT.of t1) (.cons (.int _) (.cons (.int _) (.cons .non .nil))), .tup (SqT.of upd_same) (.cons (.int _) (.cons (.int _) (.cons .non .nil))), by decide, by decide, ?_⟩
      rw [SeqAt.eqv_refl _ (by decide)]
      exact k _
end
end K00

set_option Elab.async false
set_option linter.all false
set_option maxRecDepth 100000
set_option maxHeartbeats 8000000
namespace K00
open PySem PySem.Spec PyProof.Rows L2 Say
theorem range_all {n : Nat} {p : Nat → Bool} (h : (List.range n).all p = true) {i : Nat} (hi : i < n) : p i = true := List.all_eq_true.mp h i (List.mem_range.mpr hi)
theorem and2 {a b : Bool} (h : (a && b) = true) : a = true ∧ b = true := Bool.and_eq_true_iff.mp h
theorem tx_of {w : World} {K : PySem.W.Frag} {h : Heap} {mg : Str → Option Value} (X : K.In h) (G : h.Ns mainGlobals mg) (c : He.SaysX fa fn [] [] ex w h K) : Tx K mg := by
  obtain ⟨c1, c2⟩ := and2 c.more
  obtain ⟨c3, c4⟩ := and2 c2
  obtain ⟨c5, c6⟩ := and2 c4
  have d := c.t.d
  have hbl : Bl mg := ⟨He.free_ok X G (d.fact 8 (f := .free "len") rfl), He.free_ok X G (d.fact 9 (f := .free "abs") rfl), He.free_ok X G (d.fact 10 (f := .free "int") rfl), He.free_ok X G (d.fact 11 (f := .free "range") rfl)⟩
  refine ⟨hbl, He.glo_ok X G (d.fact 0 (f := .glo "SayError") rfl), fun i hi => ?_, fun i hi => ?_, fun i j hi hj => ?_, fun i hi => ?_, c6, d.def_ 0 (d := dI 0 "InvalidText.__init__") rfl, d.def_ 1 (d := dI 1 "InvalidSaying.__init__") rfl, d.def_ 2 (d := dI 2 "InvalidSheet.__init__") rfl, d.def_ 3 (d := dI 3 "InvalidFilling.__init__") rfl, d.def_ 4 (d := dI 4 "InvalidMakers.__init__") rfl, d.def_ 5 (d := dI 5 "InvalidRules.__init__") rfl, d.def_ 6 (d := dI 6 "InvalidBook.__init__") rfl, d.def_ 7 (d := dI 7 "InvalidRow.__init__") rfl, d.def_ 8 (d := dI 8 "InvalidPremises.__init__") rfl, d.def_ 9 (d := dI 9 "InvalidProof.__init__") rfl, d.def_ 10 (d := dI 10 "InvalidFacts.__init__") rfl, d.def_ 11 (d := dI 11 "InvalidLot.__init__") rfl, d.def_ 12 (d := dI 12 "InvalidWorld.__init__") rfl, d.def_ 13 (d := dI 13 "InvalidSigned.__init__") rfl, d.def_ 14 (d := dI 14 "InvalidIndex.__init__") rfl, d.def_ 15 (d := dI 15 "Refused.__init__") rfl, d.def_ 16 (d := dI 16 "InvalidSize.__init__") rfl, d.def_ 17 (d := dI 17 "NoMaker.__init__") rfl, d.def_ 18 (d := dI 18 "NoRule.__init__") rfl, d.def_ 19 (d := dI 19 "NotCalm.__init__") rfl⟩
  · obtain ⟨z1, z2⟩ := and2 (range_all c1 (show i < 21 by omega))
    obtain ⟨z3, z4⟩ := and2 z2
    exact ⟨PySem.W.mg_of X G (He.eqO_ok z1), ecB_ok z3, fun f hf => noB_ok (List.all_eq_true.mp z4 f hf)⟩
  · obtain ⟨z1, z2⟩ := and2 (range_all c3 (show i < 20 by omega))
    exact ⟨He.eqO_ok z1, of_decide_eq_true z2⟩
  · obtain ⟨z1, z2⟩ := and2 (range_all c5 (show i < 21 by omega))
    exact of_decide_eq_true (range_all z1 (show j < 21 by omega))
  · obtain ⟨z1, z2⟩ := and2 (range_all c5 (show i < 21 by omega))
    exact of_decide_eq_true z2
theorem facts {P : Program} {w : World} {K : PySem.W.Frag} {h : Heap} {mg : Str → Option Value} {f : Addr} (X : K.In h) (G : h.Ns mainGlobals mg) (hfa : mg ("law" : Str) = some (.ref f)) (c : He.SaysX fa fn [] [] ex w h K) :
    ∃ fd : FuncData, (∀ (s : Shared) (v : Value), BindsTo s fd ⟨[v], []⟩ [("script", v)]) ∧ ∀ base : Heap, K.In base → base.Ns mainGlobals mg → FnOk P w K mg base CX0 6 f fd ["script"] (spLaw K) := by
  have T := tx_of X G c
  have d := c.t.d
  obtain ⟨d24, F24⟩ := d.def_ 20 (d := dF "_law_box" 24) rfl
  obtain ⟨d25, F25⟩ := d.def_ 21 (d := dF "_law_take" 25) rfl
  obtain ⟨d26, F26⟩ := d.def_ 22 (d := dF "_law_pick" 26) rfl
  obtain ⟨d27, F27⟩ := d.def_ 23 (d := dF "_law_raise" 27) rfl
  obtain ⟨d28, F28⟩ := d.def_ 24 (d := dF "_law_caught" 28) rfl
  obtain ⟨d29, F29⟩ := d.def_ 25 (d := dF "_law_is_base" 29) rfl
  obtain ⟨d30, F30⟩ := d.def_ 26 (d := dF "law" 30) rfl
  have e := hfa.symm.trans (He.glo_ok X G (d.fact 7 (f := .glo "law") rfl))
  cases e
  have b := FunD.bindsA (ps := ["script"]) F30 fun _ _ _ _ _ _ us hl => match us, hl with | [_], _ => rfl
  exact ⟨d30, fun s v => b s [v] rfl, fun base _ _ => ok_law F30 T ⟨F24, F25, F26, F27, F28, F29, He.glo_ok X G (d.fact 1 (f := .glo "_law_box") rfl), He.glo_ok X G (d.fact 2 (f := .glo "_law_take") rfl), He.glo_ok X G (d.fact 3 (f := .glo "_law_pick") rfl),
    He.glo_ok X G (d.fact 4 (f := .glo "_law_raise") rfl), He.glo_ok X G (d.fact 5 (f := .glo "_law_caught") rfl), He.glo_ok X G (d.fact 6 (f := .glo "_law_is_base") rfl)⟩⟩
end K00
open PySem PySem.W PySem.Calls PyProof.Rows
theorem PySem.Challenge.cw_saymakers_k00_whole_errors_and_what_they_holds : PySem.Challenge.rw_saymakers_k00_whole_errors_and_what_they.Holds := by
  w_on; o_law
  refine HandSHeadRun.head_any (r := K00.R) (q := view K00.R.prog [30]) (H := K00.hk) (ob := K00.ob) (M := 6000) (loose := K00.looseNames) (d := HandSHeadRun.topDef K00.R.prog 30) (kwd := []) K00.ob_eq
    (by kernel_rfl) (fun s => by kernel_rfl) K00.run (by kernel_rfl) (by kernel_rfl) (by kernel_rfl) (by rfl) (by first | assumption | decide +kernel) (by decide +kernel) ⟨rfl, rfl, rfl, rfl, rfl, by decide +kernel⟩ ?hw ?hc
  case hw => w_witness2
  case hc =>
    refine L2.walk_ofE (l := PySem.Challenge.rw_saymakers_k00_whole_errors_and_what_they) (n := 63) (k := 6) (x := "script") (CX := L2.CX0) rfl (by decide) (by kernel_rfl) ⟨rfl, by decide, by decide⟩ ?F (fun _ _ _ _ z => z)
    intro w mg fa h Y G hmg0
    obtain ⟨K, KX, c⟩ := Y
    have hmg : mg ("law" : PySem.Str) = some (.ref fa) := by
      have e : (HandSHeadRun.topDef K00.R.prog 30).name = ("law" : PySem.Str) := by kernel_rfl
      rw [← e]
      exact hmg0
    obtain ⟨fd, hb, hF⟩ := K00.facts (P := (PySem.Challenge.rw_saymakers_k00_whole_errors_and_what_they).prog) (w := w) KX G hmg c
    exact ⟨K, fd, K00.spLaw K, KX, hb, fun H a ns hl _ hS => ⟨a, ns, rfl, hS, fun _ => rfl⟩, hF⟩
#print axioms PySem.Challenge.cw_saymakers_k00_whole_errors_and_what_they_holds
