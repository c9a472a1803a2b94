import PyProof.Rows.All
import Wide.All
import OpenK.AllK
import Wide.FinOn
import PyProof.EqAt
import PyProof.EqKinds
import PyProof.TupleCall
import KE.KExcInit
import HandS.ForExc
import HandS.ExcField
import HandS.ExcInit
import HandS.ExcOwn
import HandS.ExcValue
import HandS.MakeKwOnly
import HandS.ForMost
import HandS.IsInst
import HandS.Walk
import HandS.Strs
import KE.KStateDown
import Lean
import HandS.More
import HandS.Defaults
import HandS.Head0
import HandS.Head1
import HandS.Head2
import HandS.HeadEnd
import HandS.HeadHook1
import HandS.HeadHook2
import HandS.HeadHook3
import HandS.HeadHook4
import KE.KDictKeyed
import KE.KeyNested
import KE.KDictList
import HandS.TupSets
import HandS.Set
import HandS.SetFor
import KE.SortData
import KE.GoesEnum
import HandS.Iter
import HandS.DictComp
import HandS.RevRange
import HandS.HeadWalk
import HandS.Flow
import HandS.FStrTup
import HandS.TupAny
import HandS.Deep
import HandS.Style
import PyProof.ReprRoads
import KE.KDictPairs
import KE.KDictZip
import HandS.ListItems
import HandS.OwnEq
import PyProof.InstEq
import HandS.TupMul
import HandS.CallLocal
import PySem.Challenge.RW_saymakers_k03_whole_prime_premises
set_option Elab.async false
set_option linter.all false
set_option maxRecDepth 100000
set_option maxHeartbeats 4000000
/-! Own errors over Exception: made, filled, raised, read. -/
namespace Say
open PySem PySem.Spec PyProof.Rows L2
/-! ### 1. what the written part says of such a class -/
abbrev bmE : List Value := [.type "Exception", .type "BaseException", .type "object"]
structure EC (K : PySem.W.Frag) (C : Addr) : Prop where
  ini : PySem.W.excInitIn K C bmE "Exception.__new__" = true
  ovr : PySem.W.excOver K C bmE = true
  sa : PySem.W.findIn K (.ref C) "__setattr__" = some (some (.builtin "object.__setattr__"))
  xf : XfC K C
  ty : PySem.W.typeIn K (.ref C) = some (.type "type")
  kp : PySem.W.keepIn K (.ref C) = true
def saB (K : PySem.W.Frag) (C : Addr) : Bool :=
  decide (PySem.W.findIn K (.ref C) "__setattr__" = some (some (.builtin "object.__setattr__")))
def ecB (K : PySem.W.Frag) (C : Addr) : Bool :=
  (PySem.W.excInitIn K C bmE "Exception.__new__" && PySem.W.excOver K C bmE) && (saB K C && xfB K C) &&
    (decide (PySem.W.typeIn K (.ref C) = some (.type "type")) && PySem.W.keepIn K (.ref C))
theorem ecB_ok {K : PySem.W.Frag} {C : Addr} (h : ecB K C = true) : EC K C := by
  simp only [ecB, Bool.and_eq_true] at h
  obtain ⟨⟨⟨h1, h2⟩, h3, h4⟩, h5, h6⟩ := h
  exact ⟨h1, h2, of_decide_eq_true h3, xfB_ok h4, of_decide_eq_true h5, h6⟩
/-- no class on the way has this name of its own -/
def noB (K : PySem.W.Frag) (C : Addr) (f : Str) : Bool := decide (PySem.W.findIn K (.ref C) f = some none)
theorem noB_ok {K : PySem.W.Frag} {C : Addr} {f : Str} (h : noB K C f = true) : PySem.W.findIn K (.ref C) f = some none := of_decide_eq_true h

/-! ### 2. self.f = v in an __init__ -/
section
variable {prog : Program} {w : World} {A : Around} {R : Result → Shared → Prop} {K : PySem.W.Frag} {C x : Addr} {f : Str} {tk : Tok} {v : Value}
variable {hp : Heap} {g : Array GenState} {d : Drawn} {t : Nat} {os : OsState}
open PySem.W Builtin.ObjectAttr in
theorem raw_first {t0 : Addr} (T : EC K C) (X : K.In hp) (hx : hp.get? x = some (excObj C t0 none .none)) (hno : findIn K (.ref C) f = some none)
    (hq : ∀ h' tk' dx, (∀ b o, b ≠ x → hp.get? b = some o → h'.get? b = some o) → hp.objs.size ≤ dx → dx ≠ x →
      h'.get? x = some (excObj C t0 (some dx) .none) → h'.Ns1 dx (fun y => if y = f then some v else none) → R (.ok (.ret .none)) ⟨h', g, d, tk', os⟩) :
    codeAny (model prog w) A (.call (.builtin "object.__setattr__") ⟨[.ref x, .str f tk, v], []⟩) R ⟨hp, g, d, t, os⟩ := by
  have xs : x ≠ hp.objs.size := Nat.ne_of_lt (Heap.lt_size hx)
  refine osa_openX (od := none) PySem.F.store_Exception X ⟨hx, rfl, rfl, trivial⟩ T.ovr (NoAttr.taker hno) fun b => ?_
  obtain ⟨cd, hc, hd⟩ := any_some T.xf.hdC
  refine wpAny_bind (wpAny_pure (wpAny_bind (instanceDict_exc hx (looks_clsIn X hc) hd ?_)))
  show wpAny _ _ (storeInDict hp.objs.size (.str f tk) f v) _ _ _
  have old : ∀ b o, b ≠ x → hp.get? b = some o → ((hp.push (dictOf [] 0)).update x fun o => { o with dict := some hp.objs.size }).get? b = some o :=
    fun b o nb q => (Heap.get?_update_ne _ _ _ _ nb).trans (Heap.get?_push_of_some _ q)
  have me : ((hp.push (dictOf [] 0)).update x fun o => { o with dict := some hp.objs.size }).get? x = some (excObj C t0 (some hp.objs.size) .none) :=
    Heap.get?_update_self _ (Heap.get?_push_of_some _ hx) rfl
  refine HandSPX.store_in_new ⟨_, #[], _, (Heap.get?_update_ne _ _ _ _ xs.symm).trans (Heap.get?_push_at rfl rfl), rfl, fun e he => absurd he (by simp), fun _ => rfl⟩ fun h' tk' hn sb => ?_
  exact hq h' tk' _ (fun b o nb q => (sb.2 b (Nat.ne_of_lt (Heap.lt_size q))).trans (old b o nb q)) (Nat.le_refl _) xs.symm ((sb.2 x xs).trans me) hn
open PySem.W Builtin.ObjectAttr in
theorem raw_more {t0 dx : Addr} {m0 : Str → Option Value} {nl : List Str} (T : EC K C) (X : K.In hp) (hx : hp.get? x = some (excObj C t0 (some dx) .none)) (hno : findIn K (.ref C) f = some none)
    (hn : hp.Ns1 dx m0) (hw : Within m0 nl) (hz : nl.length ≤ 1000)
    (hq : ∀ h' tk', (∀ b o, b ≠ dx → hp.get? b = some o → h'.get? b = some o) → h'.Ns1 dx (fun y => if y = f then some v else m0 y) → R (.ok (.ret .none)) ⟨h', g, d, tk', os⟩) :
    codeAny (model prog w) A (.call (.builtin "object.__setattr__") ⟨[.ref x, .str f tk, v], []⟩) R ⟨hp, g, d, t, os⟩ := by
  obtain ⟨oD, _, _, hD, _, _⟩ := hn.count hw
  refine osa_openX (od := some oD) PySem.F.store_Exception X ⟨hx, rfl, rfl, hD⟩ T.ovr (NoAttr.taker hno) fun b => ?_
  obtain ⟨cd, hc, hd⟩ := any_some T.xf.hdC
  refine wpAny_bind (wpAny_pure (wpAny_bind (wpAny_bind (wpAny_loadPart hx (wpAny_bind ((looks_clsIn X hc).here ?_))))))
  rw [hd]
  refine wpAny_pure (a := some dx) ?_
  exact PySem.OEX.store_in_old hn hw hz fun h' tk' hn' sb => hq h' tk' (fun b o nb q => (sb.2 b nb).trans q) hn'
end
section
variable {X : Cx} {pins : List (Addr × Obj)} {σ : L2.St} {H : Hp} {s : Shared} {a C dx : Addr} {f : Str} {y : V} {u : Value} {fs : List (Str × V)}
variable {Q : Unit → Shared → Prop} {E : Value → Shared → Prop} {A : Around}
theorem set_first (T : EC X.K C) (I : Inv X pins σ H s) (e : H a = some (exo a C none)) (hno : PySem.W.findIn X.K (.ref C) f = some none) (ry : RelV y u)
    (h : ∀ dx s', H dx = none → dx ≠ a → Inv X pins σ (upd (upd H a (exo a C (some dx))) dx (exd dx [(f, y)])) s' → Q () s') :
    wpAny (model X.prog X.w) A (setAttr (.ref a) f u) Q E s := by
  obtain ⟨t1, ho⟩ := exo_at I.hok e
  obtain ⟨hp, g, d, t, os⟩ := s
  refine PySem.W.set_plain I.kIn (ox := PySem.W.excObj C t1 none .none) (od := none) ⟨ho, rfl, rfl, trivial⟩ T.sa ?_
  refine raw_first T I.kIn ho hno fun h' tk' dx k dn dne hx hn => ?_
  have nd : H dx = none := I.hok.fresh dn
  -- the heap behind the store, but for the new dict: there the exception has been written; then the dict is laid
  obtain ⟨G, g1, g2⟩ := restrict h' fun b => decide (b ≠ dx)
  have gk : ∀ b, b ≠ dx → G.get? b = h'.get? b := fun b nb => g1 b (decide_eq_true nb)
  have gd : G.get? dx = none := g2 dx (by simp)
  have ga : G.get? a = some (PySem.W.excObj C t1 (some dx) .none) := (gk a dne.symm).trans hx
  have J : Inv X pins σ (upd H a (exo a C (some dx))) ⟨G, g, d, tk', os⟩ :=
    I.write (t' := tk') (x := a) (e := a) (by rw [e]; exact True.intro) (.inl rfl)
      (fun b o nb q => (gk b (Nat.ne_of_lt (Nat.lt_of_lt_of_le (Heap.lt_size q) dn))).trans (k b o nb q)) ⟨_, ga⟩ (exo_ok ga)
  have below : ∀ b o, G.get? b = some o → h'.get? b = some o := fun b o q => by
    by_cases nb : b = dx
    · rw [nb, gd] at q
      cases q
    · exact (gk b nb).symm.trans q
  exact h dx _ nd dne (J.laidN (t' := tk') below gd (by rw [upd_ne dne]; exact nd) (exd_ok hn (relO_put (fs := []) ry fun _ => True.intro)))
theorem set_more (T : EC X.K C) (I : Inv X pins σ H s) (e : H a = some (exo a C (some dx))) (ed : H dx = some (exd dx fs)) (hl : fs.length ≤ 900)
    (hno : PySem.W.findIn X.K (.ref C) f = some none) (ry : RelV y u) (h : ∀ s', Inv X pins σ (upd H dx (exd dx ((f, y) :: fs))) s' → Q () s') :
    wpAny (model X.prog X.w) A (setAttr (.ref a) f u) Q E s := by
  obtain ⟨t1, ho⟩ := exo_at I.hok e
  obtain ⟨mA, hns, rel⟩ := exd_at I.hok ed
  have hw := within_of rel
  obtain ⟨hp, g, d, t, os⟩ := s
  obtain ⟨oD, _, _, hD, _, _⟩ := hns.count hw
  refine PySem.W.set_plain I.kIn (ox := PySem.W.excObj C t1 (some dx) .none) (od := some oD) ⟨ho, rfl, rfl, hD⟩ T.sa ?_
  refine raw_more T I.kIn ho hno hns hw (by rw [List.length_map]; omega) fun h' tk' k hn => ?_
  have there : ∃ o, h'.get? dx = some o := by
    obtain ⟨o, _, _, q, _⟩ := hn
    exact ⟨o, q⟩
  exact h _ (I.write (t' := tk') (x := dx) (e := dx) (by rw [ed]; exact True.intro) (.inl rfl) k there (exd_ok hn (relO_put ry rel)))
end
/-- self.f = e, self an error that is being made -/
def tEst (K : PySem.W.Frag) (f : Str) (to te : TE) : TS := fun D σ H => te σ H fun y H1 => to σ H1 fun x H2 =>
  ∃ a C : Addr, x = .ref a ∧ EC K C ∧ PySem.W.findIn K (.ref C) f = some none ∧
    ((H2 a = some (exo a C none) ∧ ∀ dx, H2 dx = none → dx ≠ a → D.nx σ (upd (upd H2 a (exo a C (some dx))) dx (exd dx [(f, y)]))) ∨
      ∃ (dx : Addr) (fs : List (Str × V)), H2 a = some (exo a C (some dx)) ∧ H2 dx = some (exd dx fs) ∧ fs.length ≤ 900 ∧ D.nx σ (upd H2 dx (exd dx ((f, y) :: fs))))
theorem ps_est {X : Cx} {o e : Expr} {to te : TE} {f : Str} {p' pos : Pos} (ho : PE X o to) (he : PE X e te)
    (hs : swapsWith e (some (.Attribute o f p')) pos.line X.env = pure false := by rfl) : PS X (.Assign [.Attribute o f p'] e pos) (tEst X.K f to te) := by
  refine ⟨fun pins s σ H D I h => plainObj_wpAny_Assign_Attribute (thn (he.run pins s σ H _ I h) fun v s1 hh => ?_) hs⟩
  obtain ⟨y, H1, I1, r1, q1⟩ := hh
  refine thn (ho.run pins s1 σ H1 _ I1 q1) fun u s2 hh2 => ?_
  obtain ⟨x, H2, I2, r2, a, C, ex, T, hno, q⟩ := hh2
  subst ex
  obtain rfl : u = Value.ref a := r2
  rcases q with ⟨ea, q⟩ | ⟨dx, fs, ea, ed, hl, q⟩
  · exact set_first T I2 ea hno r1 fun dx s' n ne J => ⟨σ, _, J, q dx n ne⟩
  · exact set_more T I2 ea ed hl hno r1 fun s' J => ⟨σ, _, J, q⟩
end Say

set_option Elab.async false
set_option linter.all false
set_option maxRecDepth 100000
set_option maxHeartbeats 4000000
namespace Say
open PySem PySem.Spec PyProof.Rows L2
/-! ### 3. C(..), C's own __init__ keeping sp: raised, or held as a value -/
section
variable {X : Cx} {CX : CXT} {k : Nat} {C fI : Addr} {fd : FuncData} {ps : List Str} {sp : Sp} {ds : List Value} {dvs : List V}
variable {x : Str} {e : Expr} {es : List Expr} {ta : TA} {p pos : Pos}
/-- the class's __init__ -/
structure EI (K : PySem.W.Frag) (C fI : Addr) : Prop where
  at_ : PySem.W.findIn K (.ref C) "__init__" = some (some (.ref fI))
  fn : PySem.W.typeIn K (.ref fI) = some (.type "function")
theorem run_ex {pins : List (Addr × Obj)} {σ : L2.St} {H : Hp} {s : Shared} {us : List Value} {vs : List V} {P : Addr → Hp → Prop} {Qv : Value → Shared → Prop}
    (T : EC X.K C) (J : EI X.K C fI) (F : FnOk X.prog X.w X.K X.mg X.base CX k fI fd ps sp) (hr : Room (k + 1) X.A) (hb : Binds X.K fd ps ds) (hd : Vals dvs ds)
    (hx : Passes CX X (fun _ _ _ => False)) (I : Inv X pins σ H s) (r : Vals vs us) (hz : vs.length ≤ 1000)
    (hq : ∀ a, H a = none → sp (.ref a :: (vs ++ dvs)) (upd H a (exo a C none)) (fun v H2 => v = .non ∧ P a H2) (fun _ _ _ => False))
    (go : ∀ (hp2 : Heap) (a : Addr) (u : Value) (s' : Shared), (∀ b o, s.heap.get? b = some o → hp2.get? b = some o) → s.heap.objs.size ≤ a → H a = none →
      Inv X pins σ (upd H a (exo a C none)) { s with heap := hp2 } →
      CE X.stack X.prog X.w (upd H a (exo a C none)) { s with heap := hp2 } (fun v H2 => v = .non ∧ P a H2) u s' → u = .none ∧ Qv (.ref a) s') :
    wpAny (model X.prog X.w) X.A (call (.ref C) us) Qv X.xe s := by
  obtain ⟨nm, N, qn, bs, bm, hdct, sn, sub, ab, col, dd, k0, k1, k2, k3, k5, hC, hT⟩ := PySem.W.excInit_of I.kIn T.ini
  obtain ⟨hp, g, dr, tk, os⟩ := s
  have far : hp.objs.size ≤ hp.objs.size + 1 := Nat.le_succ _
  have hn : H (hp.objs.size + 1) = none := I.hok.fresh far
  have q := hq _ hn
  have kk : ∀ b o, hp.get? b = some o → ((hp.push (PySem.W.kdv_tup us)).push (PySem.HandSPX.excO C hp.objs.size)).get? b = some o :=
    fun b o z => Heap.get?_push_of_some _ (Heap.get?_push_of_some _ z)
  have here : ((hp.push (PySem.W.kdv_tup us)).push (PySem.HandSPX.excO C hp.objs.size)).get? (hp.objs.size + 1) = some (PySem.HandSPX.excO C hp.objs.size) := by heap_get
  have I2 : Inv X pins σ (upd H (hp.objs.size + 1) (exo (hp.objs.size + 1) C none)) ⟨(hp.push (PySem.W.kdv_tup us)).push (PySem.HandSPX.excO C hp.objs.size), g, dr, tk, os⟩ :=
    I.laid (t' := tk) kk far (exo_ok here)
  have r2 : Vals (V.ref (hp.objs.size + 1) :: (vs ++ dvs)) (Value.ref (hp.objs.size + 1) :: (us ++ ds)) := .cons rfl (r.append hd)
  have len : (Value.ref (hp.objs.size + 1) :: us ++ ds).length = ps.length := by
    have z := r2.length
    rw [F.len _ _ _ _ q] at z
    exact z.symm
  have few : us.length ≤ sizeLine := by
    rw [← Paired.length r, sizeLine_eq]
    omega
  refine wpAny_call (PySem.HandSPX.call_own PySem.F.excBase_Exception hT hC (PySem.W.looks_findIn I.kIn J.at_) (fun self => PySem.W.bind_fn I.kIn self J.fn) few
    (codeAny_mono (F.run _ X.stack _ _ ⟨Value.ref (hp.objs.size + 1) :: us, []⟩ (Value.ref (hp.objs.size + 1) :: (us ++ ds)) _ _ (fun _ _ _ => False)
      (hr.make C us []) (I2.env0.make C us []) (hb _ (Value.ref (hp.objs.size + 1) :: us) I2.kIn len) r2 q) fun rs s' z => ?_))
  cases rs with
  | error er => exact hx pins σ _ _ er s' I2 z
  | ok fl =>
    cases fl with
    | ret u => exact go _ _ u s' kk far hn I2 z
    | _ => exact z.elim
/-- raise C(e, ..): what is asked; the error's own dict stands behind it -/
def tMkE (C : Addr) (sp : Sp) (dvs : List V) (ta : TA) : L2.St → Hp → XK → Prop := fun σ H Q => ta σ H fun vs H1 => vs.length ≤ 1000 ∧
  ∀ a, H1 a = none → sp (.ref a :: (vs ++ dvs)) (upd H1 a (exo a C none))
    (fun v H2 => v = .non ∧ ∃ (d : Addr) (fs : List (Str × V)), H2 a = some (exo a C (some d)) ∧ H2 d = some (exd d fs) ∧ H1 d = none ∧ Q (.ref C) (some d) (upd (del H2 a) d (.xd fs)))
    (fun _ _ _ => False)
theorem pmk_e (T : EC X.K C) (J : EI X.K C fI) (F : FnOk X.prog X.w X.K X.mg X.base CX k fI fd ps sp) (hr : Room (k + 1) X.A) (hb : Binds X.K fd ps ds) (hd : Vals dvs ds)
    (hx : Passes CX X (fun _ _ _ => False)) (hm : X.mg x = some (.ref C)) (ha : PA X (e :: es) ta) (hg : Gl X x := by rfl)
    (hdb : (x == ("__debug__" : Str)) = false := by decide) (he : starEach (e :: es) X.env = (false, eval e X.env) :: starEach es X.env := by rfl)
    (hpl : (backTo pos (starEach es X.env)).any (·.1) = false := by rfl) : PMk X (.Call (.Name x p) (e :: es) [] pos) (tMkE C sp dvs ta) := by
  intro pins s σ H Q I h
  refine wpAny_Call_Name_kw (ld_glob I hg hm ?_ hdb)
  refine PySem.W.callWith_K (h₀ := X.base) I.ok.mod.kin T.kp (thn (ha.run pos pins s σ H _ I h) fun us s1 hh => ?_) he hpl
  obtain ⟨vs, H1, I1, r1, hz, q⟩ := hh
  refine ⟨I1.kIn, ?_⟩
  obtain ⟨hp, g, dr, tk, os⟩ := s1
  refine run_ex T J F hr hb hd hx I1 r1 hz q fun hp2 a u s' kk far hn I2 z => ?_
  obtain ⟨v, H2, os2, bare2, un2, hok2, rv, ev, d, fs, ea, ed, hd1, q2⟩ := z
  subst ev
  obtain ⟨h2, g2, d2, t2, o2⟩ := s'
  exact ⟨rv, mk_end (raises_own T.xf.exC T.ty) I1 far kk un2 hok2 os2 bare2 ea ed hd1 q2⟩
/-- C(e, ..) as a value -/
def tExv (C : Addr) (sp : Sp) (dvs : List V) (ta : TA) : TE := fun σ H Q => ta σ H fun vs H1 => vs.length ≤ 1000 ∧
  ∀ a, H1 a = none → sp (.ref a :: (vs ++ dvs)) (upd H1 a (exo a C none)) (fun v H2 => v = .non ∧ Q (.ref a) H2) (fun _ _ _ => False)
theorem pe_exv (T : EC X.K C) (J : EI X.K C fI) (F : FnOk X.prog X.w X.K X.mg X.base CX k fI fd ps sp) (hr : Room (k + 1) X.A) (hb : Binds X.K fd ps ds) (hd : Vals dvs ds)
    (hx : Passes CX X (fun _ _ _ => False)) (hm : X.mg x = some (.ref C)) (ha : PA X (e :: es) ta) (hg : Gl X x := by rfl)
    (hdb : (x == ("__debug__" : Str)) = false := by decide) (he : starEach (e :: es) X.env = (false, eval e X.env) :: starEach es X.env := by rfl)
    (hpl : (backTo pos (starEach es X.env)).any (·.1) = false := by rfl) : PE X (.Call (.Name x p) (e :: es) [] pos) (tExv C sp dvs ta) := by
  refine ⟨fun pins s σ H Q I h => ?_⟩
  refine wpAny_Call_Name_kw (ld_glob I hg hm ?_ hdb)
  refine PySem.W.callWith_K (h₀ := X.base) I.ok.mod.kin T.kp (thn (ha.run pos pins s σ H _ I h) fun us s1 hh => ?_) he hpl
  obtain ⟨vs, H1, I1, r1, hz, q⟩ := hh
  refine ⟨I1.kIn, ?_⟩
  refine run_ex T J F hr hb hd hx I1 r1 hz q fun hp2 a u s' kk far hn I2 z => ?_
  obtain ⟨v, H2, I3, rv, ev, q2⟩ := I2.after z
  subst ev
  exact ⟨rv, ⟨V.ref a, H2, I3, rfl, q2⟩⟩
/-- o.f, o an error that is held as a value -/
def tExf (K : PySem.W.Frag) (f : Str) (te : TE) : TE := fun σ H Q => te σ H fun x H1 => ∃ (a C dd : Addr) (fs : List (Str × V)) (v : V),
  x = .ref a ∧ XfC K C ∧ PySem.W.findIn K (.ref C) f = some none ∧ H1 a = some (exo a C (some dd)) ∧ H1 dd = some (exd dd fs) ∧ fs.lookup f = some v ∧ Q v H1
theorem pe_exf {f : Str} {te : TE} (he : PE X e te) (hb : attributeBase e f X.env (eval e X.env) = eval e X.env := by rfl) : PE X (.Attribute e f pos) (tExf X.K f te) := by
  refine ⟨fun pins s σ H Q I h => attr_of hb (thn (he.run pins s σ H _ I h) fun u s1 hh => ?_)⟩
  obtain ⟨x, H1, I1, rx, a, C, dd, fs, v, ex, T, hno, ea, ed, l, q⟩ := hh
  subst ex
  obtain rfl : u = Value.ref a := rx
  obtain ⟨t1, ho⟩ := exo_at I1.hok ea
  obtain ⟨mA, hns, rel⟩ := exd_at I1.hok ed
  obtain ⟨od, hD, hl⟩ := lookIn_ns hns
  obtain ⟨u, hu, ru⟩ := RelO.some_of (v := v) (o := mA f) (by rw [← l]; exact rel f)
  have W : PySem.W.InstAt s1.heap a (PySem.W.excObj C t1 (some dd) .none) C (some od) := ⟨ho, rfl, rfl, hD⟩
  exact HandSPX.exc_get I1.kIn W T.ga T.gg T.exC (PySem.W.findObj_own T.hdC hno rfl (by rw [hl, hu])) (handed_of ru) ⟨v, H1, I1.tok _, ru, q⟩
end
end Say

set_option Elab.async false
set_option linter.all false
set_option maxRecDepth 100000
set_option maxHeartbeats 4000000
namespace Say
open PySem PySem.Spec PyProof.Rows L2
/-! ### 4. raise C() of a class without an __init__ of its own -/
theorem pmk_e0 {X : Cx} {C : Addr} {x : Str} {p pos : Pos} (q : PySem.W.excIn X.K C bmE "Exception.__new__" = true) (T : EC X.K C) (hm : X.mg x = some (.ref C)) (hg : Gl X x := by rfl)
    (hdb : (x == ("__debug__" : Str)) = false := by decide) : PMk X (.Call (.Name x p) [] [] pos) (fun _ H Q => Q (.ref C) none H) := by
  intro pins s σ H Q I h
  refine wpAny_Call_Name_kw (ld_glob I hg hm ?_ hdb)
  refine PySem.W.callWith_K0 I.kIn T.kp ?_
  obtain ⟨bm, N, nm, qn, bs, hdct, sn, sub, ab, col, dd, k0, k1, k2, k3, k5, mN, hC, hN, hni, T2⟩ := exc_obj I.kIn q
  refine wpAny_call_exc_subT PySem.F.excBase_Exception T2 hC hN hni (fun h' e hm' => ?_) (Nat.zero_le _)
  exact mk_of I hm' (raises_own T.xf.exC T.ty) h (I.hok.gone hm'.new)

/-! ### 5. try with any number of clauses, each with a name or without -/
/-- a clause: its class, its name's slot, its suite -/
structure Cl where
  c : Value
  i : Option Nat
  ts : Addr → Value → Option Addr → TS
/-- behind a suite its name is unbound -/
def Cl.off (q : Cl) (σ : L2.St) : L2.St := match q.i with
  | none => σ
  | some i => σ.set i none
def Cl.on (q : Cl) (a : Addr) (σ : L2.St) : L2.St := match q.i with
  | none => σ
  | some i => σ.set i (some (.ref a))
def Cl.ends (q : Cl) (D : Ends) : Ends :=
  { nx := fun σ H => D.nx (q.off σ) H, rt := D.rt, bk := fun σ H => D.bk (q.off σ) H, ct := fun σ H => D.ct (q.off σ) H }
/-- what the clauses wish, from the first on -/
def wCl (K : PySem.W.Frag) (Wout : WX) (D : Ends) : List Cl → WX
  | [] => Wout
  | q :: r => fun cls d σ H => ∃ b, PySem.W.exmOne K cls q.c = some b ∧ (b = true → ∀ a, H a = none → q.ts a cls d (q.ends D) (q.on a σ) H) ∧ (b = false → wCl K Wout D r cls d σ H)
inductive ClOk (X : Cx) : List ExceptHandler → List Cl → Prop
  | nil : ClOk X [] []
  | bare {x : Str} {c : Value} {ts : Addr → Value → Option Addr → TS} {b₀ : Stmt} {suite : List Stmt} {np p2 : Pos} {hs : List ExceptHandler} {l : List Cl} (hc : Names X x c)
      (go : ∀ (a : Addr) (oe : Obj) (cls : Value) (d : Option Addr) (pn : List (Addr × Obj)), Zc cls d oe → (∃ vs, oe.data = .fields vs) →
        PSs (X.suite a ((a, oe) :: pn)) (b₀ :: suite) (ts a cls d)) (r : ClOk X hs l) :
      ClOk X (.ExceptHandler (some (.Name x np)) none (b₀ :: suite) p2 :: hs) (⟨c, none, ts⟩ :: l)
  | as {x n : Str} {i : Nat} {c : Value} {ts : Addr → Value → Option Addr → TS} {b₀ : Stmt} {suite : List Stmt} {np p2 : Pos} {hs : List ExceptHandler} {l : List Cl} (hc : Names X x c)
      (hi : X.N[i]? = some n) (hl : X.env.kindOf n = some .local)
      (go : ∀ (a : Addr) (oe : Obj) (cls : Value) (d : Option Addr) (pn : List (Addr × Obj)), Zc cls d oe → (∃ vs, oe.data = .fields vs) →
        PSs (X.suite a ((a, oe) :: pn)) (b₀ :: suite) (ts a cls d)) (r : ClOk X hs l) :
      ClOk X (.ExceptHandler (some (.Name x np)) (some n) (b₀ :: suite) p2 :: hs) (⟨c, some i, ts⟩ :: l)
section
variable {X : Cx} {pins : List (Addr × Obj)} {D : Ends} {Wout : WX}
/-- what is known of an error that has landed at this def's try -/
structure Landed (X : Cx) (pins : List (Addr × Obj)) (B : Heap) (a : Addr) (cls : Value) (d : Option Addr) (σ : L2.St) (H : Hp) (sI s0 : Shared) (h3 : Heap) : Prop where
  inv : Inv X pins σ H sI
  nb : ∀ b o, sI.heap.get? b = some o → b ∉ frs X.stack → B.get? b = some o
  up : sI.heap.UpToSlots h3
  fl : HandSPX.FlyingZ B (X.env :: X.outer) a (Zc cls d) h3
  na : H a = none
  os : s0.os = sI.os
  ag : AllBare s0.gens
variable {B : Heap} {a : Addr} {cls : Value} {d : Option Addr} {σ : L2.St} {H : Hp} {sI s0 : Shared} {h3 : Heap}
theorem Landed.apart (L : Landed X pins B a cls d σ H sI s0 h3) (hf : X.env.frame = some X.env.locals) {h : Heap} {o : Obj} {vs : Array Value} (ff : h.FunFrames B (X.env :: X.outer)) (e : h.get? a = some o) (dd : o.data = .fields vs) :
    a ≠ X.env.locals ∧ a ∉ X.fs := by
  have out : a ∉ frs (X.env :: X.outer) := fun hm => by
    obtain ⟨_, o2, e2, no⟩ := ff.mem hm
    rw [e] at e2
    cases e2
    exact no _ dd
  refine ⟨fun z => out (List.mem_filterMap.mpr ⟨X.env, List.mem_cons_self, by rw [hf, z]⟩), fun hm => ?_⟩
  obtain ⟨v, hv, q⟩ := List.mem_filterMap.mp hm
  exact out (List.mem_filterMap.mpr ⟨v, List.mem_cons_of_mem _ hv, q⟩)
/-- the suites' own ground -/
theorem Landed.ground (L : Landed X pins B a cls d σ H sI s0 h3) (hf : X.env.frame = some X.env.locals) :
    ∃ oe, Zc cls d oe ∧ (∃ vs, oe.data = .fields vs) ∧ h3.get? a = some oe ∧ X.K.In h3 ∧ Inv (X.suite a ((a, oe) :: (X.pn ++ pins))) [] σ H { s0 with heap := h3 } := by
  obtain ⟨oe, vs, he, hz, hd⟩ := L.fl.there
  obtain ⟨nL, nF⟩ := L.apart hf L.fl.2.2.1 he hd
  have J : Inv X pins σ H { s0 with heap := h3 } := L.inv.landed L.nb L.fl.1 L.up L.os L.ag
  exact ⟨oe, hz, ⟨vs, hd⟩, he, J.kIn, J.suite he hd L.na nL nF⟩
theorem clauses_run (hs : X.stack = X.env :: X.outer) (hf : X.env.frame = some X.env.locals) (hN : X.N.Nodup) (tk : Takes X Wout) (L : Landed X pins B a cls d σ H sI s0 h3)
    {hds : List ExceptHandler} {l : List Cl} (ok : ClOk X hds l) : wCl X.K Wout D l cls d σ H →
      wpAny (model X.prog X.w) X.A (handleBy (.ref a) X.env hds) (SP X pins D) X.xe { s0 with heap := h3 } := by
  obtain ⟨oe3, hz3, hd3, he3, K3, S3⟩ := L.ground hf
  have LT : PySem.W.Looks (model X.prog X.w) h3 (typeOf (.ref a)) cls := fun A Q E s k q => wpAny_typeOf_ref (k _ _ he3) (by rw [hz3.1]; exact q)
  -- the class's name is read with the error at hand
  have named : ∀ {x : Str} {c : Value} {np : Pos} {Q : Value → Shared → Prop} {E : Value → Shared → Prop}, Names X x c → Q c { s0 with heap := h3 } →
      wpAny (model X.prog X.w) (X.A.mark (some (.ref a))) (eval (.Name x np) X.env) Q E { s0 with heap := h3 } := fun {x c np Q E} hc q => by
    obtain ⟨hg, hdbg, hm | ⟨hm, hv, hnn⟩⟩ := hc
    · exact ld_glob (X := X.suite a ((a, oe3) :: (X.pn ++ pins))) S3 hg hm q hdbg
    · exact ld_blt (X := X.suite a ((a, oe3) :: (X.pn ++ pins))) S3 hg hm hv q hnn hdbg
  -- a suite starts where the error has landed once more
  have again : ∀ {h4 : Heap}, HandSPX.FlyingZ B (X.env :: X.outer) a (Zc cls d) h4 → h3.UpToSlots h4 → Landed X pins B a cls d σ H sI s0 h4 :=
    fun fl up => ⟨L.inv, L.nb, L.up.trans up, fl, L.na, L.os, L.ag⟩
  induction ok with
  | nil =>
    intro w
    refine wpAny_handleBy_nil ?_
    obtain ⟨_, _, _, oe, vs, T, oT, ts, he, hz, hd, h1, hr⟩ := id L.fl
    unfold PySem.passOn
    refine wpAny_bind (wpAny_field he hd h1 ?_)
    rw [if_neg (show ¬ ((Value.ref T == Value.none) = true) from by simp)]
    have fin : wpAny (model X.prog X.w) X.A (setFlight (.ref a) X.env.frame) (fun _ s4 => wpAny (model X.prog X.w) X.A (throw (.ref a) : Sem Flow) (SP X pins D) X.xe s4) X.xe { s0 with heap := h3 } := by
      rw [hf]
      refine HandSPX.setFlight_upZ L.fl fun h4 held up4 => wpAny_throw (tk _ _ ?_)
      exact ⟨a, B, sI, pins, σ, H, cls, d, rfl, L.inv, L.nb, L.up.trans up4, .inr (.inr (by rw [hs]; exact held)), L.na, L.os, L.ag, w⟩
    first
      | exact wpAny_bind (wpAny_pure (wpAny_bind fin))
      | exact wpAny_bind fin
  | @bare x c ts b₀ suite np p2 hs2 l2 hc go r ih =>
    rintro ⟨b, hb1, yes, no⟩
    refine wpAny_handleBy_cons (codeAny_handlers_test ?_) (by intro q; cases q)
    refine named hc ((PySem.W.exm_one (M := model X.prog X.w) K3 LT hb1).here ?_)
    cases b with
    | false => exact ih (no rfl)
    | true =>
      refine codeAny_handlers_suite (HandSPX.lands_againZ L.fl fun h4 fl4 up4 => ?_)
      obtain ⟨oe4, hz4, hd4, he4, _, S4⟩ := (again fl4 up4).ground hf
      refine wpAny_mono ((go a oe4 cls d _ hz4 hd4).run [] _ _ H _ S4 (yes rfl a L.na)) (fun f s6 e6 => ?_) (fun _ _ z => z.elim)
      cases f with
      | ret u =>
        obtain ⟨v6, σ6, H6, S6, r6, q6⟩ := e6
        exact ⟨_, _, _, S6.unsuite L.inv.ok, r6, q6⟩
      | _ =>
        obtain ⟨σ6, H6, S6, q6⟩ := e6
        exact ⟨_, _, S6.unsuite L.inv.ok, q6⟩
  | @as x n i c ts b₀ suite np p2 hs2 l2 hc hi hl go r ih =>
    rintro ⟨b, hb1, yes, no⟩
    refine wpAny_handleBy_cons (codeAny_handlers_test ?_) (by intro q; cases q)
    refine named hc ((PySem.W.exm_one (M := model X.prog X.w) K3 LT hb1).here ?_)
    cases b with
    | false => exact ih (no rfl)
    | true =>
      refine codeAny_handlers_suite_as (HandSPX.lands_againZ L.fl fun h4 fl4 up4 => ?_)
      obtain ⟨oe4, hz4, hd4, he4, _, S4⟩ := (again fl4 up4).ground hf
      refine store_ok (X := X.suite a ((a, oe4) :: (X.pn ++ pins))) (v := .ref a) S4 hN hi (.inl hl) rfl (fun s5 S5 => ?_) (.inr hl)
      refine wpAny_mono ((go a oe4 cls d _ hz4 hd4).run [] s5 _ H _ S5 (yes rfl a L.na)) (fun f s6 e6 => ?_) (fun _ _ z => z.elim)
      cases f with
      | ret u =>
        obtain ⟨v6, σ6, H6, S6, r6, q6⟩ := e6
        exact gone_ok (S6.unsuite L.inv.ok) hN hi hl fun s7 J7 => ⟨_, _, _, J7, r6, q6⟩
      | _ =>
        obtain ⟨σ6, H6, S6, q6⟩ := e6
        exact gone_ok (S6.unsuite L.inv.ok) hN hi hl fun s7 J7 => ⟨_, _, J7, q6⟩
end
end Say

set_option Elab.async false
set_option linter.all false
set_option maxRecDepth 100000
set_option maxHeartbeats 4000000
namespace Say
open PySem PySem.Spec PyProof.Rows L2
section
variable {X : Cx} {Wout : WX}
/-- the body is read under the wish of the clauses -/
def tTry (tb : WX → TS) (Wout : WX) (l : List Cl) (K : PySem.W.Frag) : TS := fun D σ H => tb (wCl K Wout D l) D σ H
theorem ps_try_cl {body : List Stmt} {h₀ : ExceptHandler} {hds : List ExceptHandler} {l : List Cl} {pos : Pos} {tb : WX → TS} (hs : X.stack = X.env :: X.outer) (hf : X.env.frame = some X.env.locals)
    (hN : X.N.Nodup) (tk : Takes X Wout) (ok : ClOk X (h₀ :: hds) l)
    (hb : ∀ (W : WX) (pn : List (Addr × Obj)) (xe : Value → Shared → Prop), Takes (X.tr pn xe) W → PassesOwn (model X.prog X.w) X.A X.env xe → PSs (X.tr pn xe) body (tb W)) :
    PS X (.Try body (h₀ :: hds) [] [] pos) (tTry tb Wout l X.K) := by
  refine ⟨fun pins s σ H D I h => wpAny_Try_except ?_⟩
  have fr : X.A.frames = some (X.env :: X.outer) := by rw [I.ok.frames, hs]
  -- what leaves the body is noted, and meets the clauses
  let met : Value → Shared → Prop := fun e s₁ => wpAny (model X.prog X.w) X.A (noteFrame e X.env) (fun _ s₂ =>
    wpAny (model X.prog X.w) X.A (setFlight e none) (fun _ s₃ => wpAny (model X.prog X.w) X.A (handleBy e X.env (h₀ :: hds)) (SP X pins D) X.xe s₃) X.xe s₂) X.xe s₁
  have takes : Takes (X.tr (X.pn ++ pins) met) (wCl X.K Wout D l) := fun u s' xx => by
    obtain ⟨a, B, sI, pins2, σ2, H2, cls, d, rfl, J, nb, up, sky, na, os, ag, w⟩ := xx
    show wpAny (model X.prog X.w) X.A (noteFrame (.ref a) X.env) _ _ _
    refine Sky.land Zc.steady fr hf (by rw [← hs]; exact sky) fun h3 fl3 up3 => ?_
    exact clauses_run hs hf hN tk ⟨J.ofTry I.ok, nb, up.trans up3, fl3, na, os, ag⟩ ok w
  refine wpAny_mono ((hb _ (X.pn ++ pins) met takes PassesOwn.looking).run [] s σ H D (I.toTry _) h) (fun f s1 e1 => ?_) (fun _ _ z => z)
  cases f with
  | next =>
    obtain ⟨σ1, H1, J, q⟩ := e1
    exact wpAny_execs_nil ⟨σ1, H1, J.ofTry I.ok, q⟩
  | ret u =>
    obtain ⟨v, σ1, H1, J, r, q⟩ := e1
    exact ⟨v, σ1, H1, J.ofTry I.ok, r, q⟩
  | _ =>
    obtain ⟨σ1, H1, J, q⟩ := e1
    exact ⟨σ1, H1, J.ofTry I.ok, q⟩
end
end Say

set_option Elab.async false
set_option linter.all false
set_option maxRecDepth 100000
set_option maxHeartbeats 4000000
namespace Say
open PySem PySem.Spec PyProof.Rows L2
section
variable {M : Model} {prog : Program} {w : World} {A : Around} {E : Value → Shared → Prop} {R : Result → Shared → Prop} {h : Heap} {g : Array GenState} {d : Drawn} {t : Nat} {os : OsState}
variable {nm q : Str} {C N : Addr} {bs bm : List Value} {hdct : Bool} {sn : List Str} {sub : List Value} {ab : Bool} {col : Option Bool} {dd : Option Addr} {k0 k1 k2 k3 k5 : Option Value}
abbrev ClsAt (h : Heap) (nm q : Str) (C N : Addr) (bs bm : List Value) (hdct : Bool) (sn : List Str) (sub : List Value) (ab : Bool) (col : Option Bool) (dd : Option Addr) (k0 k1 k2 k3 k5 : Option Value) : Prop :=
  h.get? C = some (excClassObj nm q C N bs bm hdct sn sub ab col dd k0 k1 k2 k3 k5 "Exception.__new__") ∧ ∀ X : String, bm.contains (.type X) = bmE.contains (.type X)
theorem kw_check {n : Str} {v : Value} {Q : Unit → Shared → Prop} (hC : ClsAt h nm q C N bs bm hdct sn sub ab col dd k0 k1 k2 k3 k5) (hq : Q () ⟨h, g, d, t, os⟩) :
    wpAny M A (checkBuiltinCall "Exception.__new__" ⟨[.ref C], [(n, v)]⟩) Q E ⟨h, g, d, t, os⟩ := by
  have F := PySem.F.excBase_Exception
  have has : (Value.ref C :: bm).contains (.type "Exception") = true := by rw [List.contains_cons, hC.2, F.hasB, Bool.or_true]
  have star := F.noStar
  have here := hC.1
  simp only [checkBuiltinCall, F.newKind, F.newSplit, F.newRow]
  repeat (first
    | refine wpAny_loadPart_at here ?_
    | (refine wpAny_isSubtype_exc here ?_; rw [has])
    | refine wpAny_staticBase_exc here ?_
    | refine wpAny_madeBy_exc here ?_
    | simp only [bne_self_eq_false, Bool.false_eq_true, if_false]
    | wp_step)
  exact hq
theorem kw_new {n : Str} {v : Value} (hC : ClsAt h nm q C N bs bm hdct sn sub ab col dd k0 k1 k2 k3 k5)
    (hq : R (.ok (.ret (.ref (h.objs.size + 1)))) ⟨(h.push (PySem.W.kdv_tup [])).push (PySem.HandSPX.excO C h.objs.size), g, d, t, os⟩) :
    codeAny (model prog w) A (.builtin "Exception.__new__" ⟨[.ref C], [(n, v)]⟩) R ⟨h, g, d, t, os⟩ := by
  have F := PySem.F.excBase_Exception
  have ends := F.ends
  have here := hC.1
  have isE : (Value.ref C :: bm).contains (.type "Exception") = true := by rw [List.contains_cons, hC.2, F.hasB, Bool.or_true]
  have noA : (Value.ref C :: bm).contains (.type "AttributeError") = false := by
    rw [List.contains_cons, hC.2, F.noAttr]
    rfl
  have noN : (Value.ref C :: bm).contains (.type "NameError") = false := by
    rw [List.contains_cons, hC.2, F.noName]
    rfl
  have fits : ([] : List Value).length ≤ sizeLine := Nat.zero_le _
  refine codeAny_builtinAt F.entry ?_
  unfold Builtin.«BaseException.__new__»
  refine PySem.wpAt_bind ?_
  show PySem.wpAt _ _ _ (stack >>= _) _ _ _
  refine PySem.wpAt_bind (PySem.wpAt_stack fun p below => PySem.wpAt_of_wpAny ?_)
  wp_walk
  refine PySem.wpAt_of_wpAny ?_
  rw [F.owner]
  repeat (first
    | with_reducible refine wpAny_madeHere_exc F.canon here ?_
    | with_reducible refine wpAny_loadPart_at here ?_
    | (with_reducible refine wpAny_isSubtype_exc here ?_; first | rw [isE] | rw [noA] | rw [noN])
    | wp_step)
  show R _ _
  rw [Heap.size_push]
  exact hq
theorem kw_type {fI : Addr} {n : Str} {v : Value} {Q : Fin → Shared → Prop} (hC : ClsAt h nm q C N bs bm hdct sn sub ab col dd k0 k1 k2 k3 k5)
    (hi : PySem.W.Looks (model prog w) h (typeLookup (.ref C) "__init__") (some (.ref fI))) (hb : ∀ self, PySem.W.Looks (model prog w) h (bindSpecial (.ref fI) self) (.ref fI, [self]))
    (hq : codeAny (model prog w) A (.call (.ref fI) ⟨[.ref (h.objs.size + 1)], [(n, v)]⟩)
      (fun r s' => match r with | .ok (.ret u) => u = .none ∧ Q (.done (.ret (.ref (h.objs.size + 1)))) s' | .ok _ => False | .error e => E e s')
      ⟨(h.push (PySem.W.kdv_tup [])).push (PySem.HandSPX.excO C h.objs.size), g, d, t, os⟩) :
    wpAny (model prog w) A (Builtin.«type.__call__» ⟨[.ref C], [(n, v)]⟩) Q E ⟨h, g, d, t, os⟩ := by
  have F := PySem.F.excBase_Exception
  have here := hC.1
  repeat (first
    | with_reducible refine wpAny_loadPart_at here ?_
    | with_reducible refine wpAny_madeBy_exc here ?_
    | wp_step)
  refine codeAny_call_builtin_code (Code.quiet_builtin _ F.quiet) (kw_check hC (kw_new hC ?_))
  show wpAny _ _ _ _ _ _
  have k : ∀ b o, h.get? b = some o → ((h.push (PySem.W.kdv_tup [])).push (PySem.HandSPX.excO C h.objs.size)).get? b = some o :=
    fun b o z => Heap.get?_push_of_some _ (Heap.get?_push_of_some _ z)
  have here2 := k _ _ here
  have made : ((h.push (PySem.W.kdv_tup [])).push (PySem.HandSPX.excO C h.objs.size)).get? (h.objs.size + 1) = some (PySem.HandSPX.excO C h.objs.size) := by heap_get
  have own : (Value.ref C :: bm).contains (.ref C) = true := by simp
  unfold isInstance
  repeat (first
    | with_reducible refine wpAny_loadPart_at made ?_
    | (with_reducible refine wpAny_isSubtype_exc here2 ?_; rw [own])
    | wp_step)
  show wpAny _ _ (typeLookup (.ref C) _) _ _ _
  refine (hi.keeps k).at ?_
  refine wpAny_holding (wpAny_bind (((hb (.ref (h.objs.size + 1))).keeps k).at ?_))
  refine wpAny_bind (wpAny_call (codeAny_mono hq fun r s' z => ?_))
  cases r with
  | error e => exact z
  | ok fl =>
    cases fl with
    | ret u =>
      obtain ⟨rfl, z⟩ := z
      first
        | exact wpAny_pure (wpAny_pure z)
        | (wp_walk; exact z)
    | _ => exact z.elim
theorem kw_call {fI : Addr} {n : Str} {v : Value} (hC : ClsAt h nm q C N bs bm hdct sn sub ab col dd k0 k1 k2 k3 k5)
    (hi : PySem.W.Looks (model prog w) h (typeLookup (.ref C) "__init__") (some (.ref fI))) (hb : ∀ self, PySem.W.Looks (model prog w) h (bindSpecial (.ref fI) self) (.ref fI, [self]))
    (hq : codeAny (model prog w) (A.under (.builtin "type.__call__" ⟨[.ref C], [(n, v)]⟩)) (.call (.ref fI) ⟨[.ref (h.objs.size + 1)], [(n, v)]⟩) (PySem.W.InitBack (h.objs.size + 1) R)
      ⟨(h.push (PySem.W.kdv_tup [])).push (PySem.HandSPX.excO C h.objs.size), g, d, t, os⟩) :
    codeAny (model prog w) A (.call (.ref C) ⟨[], [(n, v)]⟩) R ⟨h, g, d, t, os⟩ := by
  have f1 := tc_lookup
  have f2 := tc_bind (.ref C)
  have here := hC.1
  have isTy : (⟨h, g, d, t, os⟩ : Shared).TypeIs (.ref C) "type" := ⟨_, here, rfl⟩
  refine codeAny_of_tree ?_
  show wpAny _ _ (callAny (.ref C) _) _ _ _
  repeat (any_goals (first
    | assumption
    | with_reducible refine wpAny_loadPart_at here ?_
    | wp_step))
  refine ⟨rfl, ?_⟩
  refine codeAny_call_builtin_at (Code.quiet_builtin _ (by decide +kernel)) entry_typeCall (wpAny_check_type_call_sub here (kw_type hC hi hb ?_))
  refine codeAny_mono hq fun r s' z => ?_
  cases r with
  | error e => exact z
  | ok fl => cases fl <;> exact z
end
section
variable {X : Cx} {CX : CXT} {k : Nat} {C fI : Addr} {fd : FuncData} {ps : List Str} {sp : Sp} {x n : Str} {e : Expr} {te : TE} {p pos kpos : Pos}
theorem vals1x {a : Addr} {y : V} {u : Value} (h : RelV (.ref a) (.ref a)) (r : RelV y u) : Vals [.ref a, y] [.ref a, u] := .cons h (.cons r .nil)
/-- C(n=e) as a value -/
def tExk (C : Addr) (sp : Sp) (te : TE) : TE := fun σ H Q => te σ H fun y H1 =>
  ∀ a, H1 a = none → sp [.ref a, y] (upd H1 a (exo a C none)) (fun v H2 => v = .non ∧ Q (.ref a) H2) (fun _ _ _ => False)
theorem pe_exk (T : EC X.K C) (J : EI X.K C fI) (F : FnOk X.prog X.w X.K X.mg X.base CX k fI fd ps sp) (hr : Room (k + 1) X.A)
    (hb : ∀ (s : Shared) (v u : Value), X.K.In s.heap → BindsTo s fd ⟨[v], [(n, u)]⟩ (ps.zip [v, u])) (hx : Passes CX X (fun _ _ _ => False)) (hm : X.mg x = some (.ref C)) (he : PE X e te)
    (hg : Gl X x := by rfl) (hdb : (x == ("__debug__" : Str)) = false := by decide)
    (hall : (backToKw pos (keywordEach [⟨some n, e, kpos⟩] X.env)).all (·.1.isSome) = true := by rfl) (hks : (backToKw pos (keywordEach [⟨some n, e, kpos⟩] X.env)).filterMap (·.1) = [n] := by rfl)
    (hpl : ((backTo pos (starEach [] X.env)).any (·.1) || (backToKw pos (keywordEach [⟨some n, e, kpos⟩] X.env)).any (·.1.isNone)) = false := by rfl) :
    PE X (.Call (.Name x p) [] [⟨some n, e, kpos⟩] pos) (tExk C sp te) := by
  refine ⟨fun pins s σ H Q I h => ?_⟩
  refine wpAny_Call_Name_kw (ld_glob I hg hm ?_ hdb)
  refine PySem.W.callWith_KW0 (h₀ := X.base) I.ok.mod.kin T.kp hall ?_ hpl
  show wpAny _ _ (evalAll ((do let v ← eval e X.env; standAt pos; pure v) :: [])) _ _ s
  refine wpAny_evalAll_cons (wpAny_bind (thn (he.run pins s σ H _ I h) fun u s1 hh => wpAny_bind (wpAny_standAt (wpAny_pure (wpAny_evalAll_nil ?_)))))
  obtain ⟨y, H1, I1, ru, q⟩ := hh
  refine ⟨I1.kIn, ?_⟩
  rw [hks]
  show wpAny _ _ (call (.ref C) [] [(n, u)]) _ _ _
  obtain ⟨nm, N, qn, bs, bm, hdct, sn, sub, ab, col, dd, k0, k1, k2, k3, k5, hC, hT⟩ := PySem.W.excInit_of I1.kIn T.ini
  obtain ⟨hp, g, dr, tk, os⟩ := s1
  have far : hp.objs.size ≤ hp.objs.size + 1 := Nat.le_succ _
  have q2 := q _ (I1.hok.fresh far)
  have kk : ∀ b o, hp.get? b = some o → ((hp.push (PySem.W.kdv_tup [])).push (PySem.HandSPX.excO C hp.objs.size)).get? b = some o :=
    fun b o z => Heap.get?_push_of_some _ (Heap.get?_push_of_some _ z)
  have here : ((hp.push (PySem.W.kdv_tup [])).push (PySem.HandSPX.excO C hp.objs.size)).get? (hp.objs.size + 1) = some (PySem.HandSPX.excO C hp.objs.size) := by heap_get
  have I2 : Inv X pins σ (upd H1 (hp.objs.size + 1) (exo (hp.objs.size + 1) C none)) ⟨(hp.push (PySem.W.kdv_tup [])).push (PySem.HandSPX.excO C hp.objs.size), g, dr, tk, os⟩ :=
    I1.laid (t' := tk) kk far (exo_ok here)
  refine wpAny_call (kw_call ⟨hC, hT⟩ (PySem.W.looks_findIn I1.kIn J.at_) (fun self => PySem.W.bind_fn I1.kIn self J.fn)
    (codeAny_mono (F.run _ X.stack _ _ ⟨[Value.ref (hp.objs.size + 1)], [(n, u)]⟩ [Value.ref (hp.objs.size + 1), u] _ _ (fun _ _ _ => False)
      (hr.make C [] [(n, u)]) (I2.env0.make C [] [(n, u)]) (hb _ _ _ I2.kIn) (vals1x rfl ru) q2) fun rs s' z => ?_))
  cases rs with
  | error er => exact hx pins σ _ _ er s' I2 z
  | ok fl =>
    cases fl with
    | ret u2 =>
      obtain ⟨v, H2, I3, rv, ev, q3⟩ := I2.after z
      subst ev
      exact ⟨rv, ⟨V.ref (hp.objs.size + 1), H2, I3, rfl, q3⟩⟩
    | _ => exact z.elim
end
end Say

set_option Elab.async false
set_option linter.all false
set_option maxRecDepth 100000
set_option maxHeartbeats 4000000
/-! What is known of data while the heap grows; a list or a tuple, whichever is handed in; isinstance of data. -/
namespace Say
open PySem PySem.Spec PyProof.Rows L2
/-! ### 1. what stays -/
/-- tuples and locked things stay as they are -/
structure Grow (H H' : Hp) : Prop where
  tup : ∀ a xs, H a = some (.tup xs) → H' a = some (.tup xs)
  frz : ∀ a o u, H a = some (.frz o u) → H' a = some (.frz o u)
theorem Grow.refl (H : Hp) : Grow H H := ⟨fun _ _ h => h, fun _ _ _ h => h⟩
theorem Grow.trans {H H1 H2 : Hp} (g : Grow H H1) (k : Grow H1 H2) : Grow H H2 := ⟨fun a xs h => k.tup a xs (g.tup a xs h), fun a o u h => k.frz a o u (g.frz a o u h)⟩
theorem grow_same {H H' : Hp} (s : Same H H') : Grow H H' := ⟨fun a xs h => s a _ h, fun a o u h => s a _ h⟩
theorem same_new {H : Hp} {p : Addr} {o : HO} (h : H p = none) : Same H (upd H p o) := fun b u q => by
  rw [upd_ne (ne_of_none q h)]
  exact q
theorem grow_new {H : Hp} {p : Addr} {o : HO} (h : H p = none) : Grow H (upd H p o) := grow_same (same_new h)
theorem grow_lst {H : Hp} {p : Addr} {xs : List V} {o : HO} (h : H p = some (.lst xs)) : Grow H (upd H p o) :=
  ⟨fun a ys q => by rw [upd_ne (ne_of q h (by intro z; cases z))]; exact q, fun a o2 u q => by rw [upd_ne (ne_of q h (by intro z; cases z))]; exact q⟩
theorem grow_dK {H : Hp} {p : Addr} {xs : List (Key × V)} {o : HO} (h : H p = some (.dK xs)) : Grow H (upd H p o) :=
  ⟨fun a ys q => by rw [upd_ne (ne_of q h (by intro z; cases z))]; exact q, fun a o2 u q => by rw [upd_ne (ne_of q h (by intro z; cases z))]; exact q⟩
theorem grow_sqT {K : PySem.W.Frag} {H H' : Hp} (g : Grow H H') {a : Addr} {xs : List V} (h : SqT K H a xs) : SqT K H' a xs := by
  rcases h with (h | ⟨o, h⟩) | h
  · exact .inl (.inl (g.tup _ _ h))
  · exact .inl (.inr ⟨o, g.frz _ _ _ h⟩)
  · exact .inr h
/-- as tracked, for a store at a new object: what stood, stands; and behind a change of our own list at p, all but that -/
theorem same_upd {H0 H : Hp} {p : Addr} {o : HO} (s : Same H0 H) (h : H0 p = none) : Same H0 (upd H p o) := fun b u q => by
  rw [upd_ne (ne_of_none q h)]
  exact s b u q
/-! ### 2. data -/
mutual
theorem dp_mono {K : PySem.W.Frag} {H H' : Hp} (s : Same H H') : ∀ (d : PyData) (v : V), Dp K H v d → Dp K H' v d
  | .none, _, h => by cases h; exact .non
  | .bool b, _, h => by cases h; exact .bl b
  | .int i, _, h => by cases h; exact .int i
  | .str x, _, h => by cases h; exact .str x
  | .list ds, _, h => by
    cases h with
    | lst hs ha => exact .lst (s.seq hs) (dpAll_mono s ds _ ha)
  | .tuple ds, _, h => by
    cases h with
    | tup hs ha => exact .tup (grow_sqT (grow_same s) hs) (dpAll_mono s ds _ ha)
  | .dict _, _, h => by cases h
theorem dpAll_mono {K : PySem.W.Frag} {H H' : Hp} (s : Same H H') : ∀ (ds : List PyData) (vs : List V), DpAll K H vs ds → DpAll K H' vs ds
  | [], _, h => by cases h; exact .nil
  | d :: ds, _, h => by
    cases h with
    | cons h1 h2 => exact .cons (dp_mono s d _ h1) (dpAll_mono s ds _ h2)
end
mutual
/-- no list within -/
def firm : PyData → Bool
  | .list _ => false
  | .tuple ds => firmAll ds
  | .dict _ => false
  | _ => true
def firmAll : List PyData → Bool
  | [] => true
  | d :: ds => firm d && firmAll ds
end
mutual
theorem dp_grow {K : PySem.W.Frag} {H H' : Hp} (g : Grow H H') : ∀ (d : PyData) (v : V), firm d = true → Dp K H v d → Dp K H' v d
  | .none, _, _, h => by cases h; exact .non
  | .bool b, _, _, h => by cases h; exact .bl b
  | .int i, _, _, h => by cases h; exact .int i
  | .str x, _, _, h => by cases h; exact .str x
  | .list ds, _, f, _ => by simp only [firm] at f; cases f
  | .tuple ds, _, f, h => by
    cases h with
    | tup hs ha => exact .tup (grow_sqT g hs) (dpAll_grow g ds _ (by simpa only [firm] using f) ha)
  | .dict _, _, _, h => by cases h
theorem dpAll_grow {K : PySem.W.Frag} {H H' : Hp} (g : Grow H H') : ∀ (ds : List PyData) (vs : List V), firmAll ds = true → DpAll K H vs ds → DpAll K H' vs ds
  | [], _, _, h => by cases h; exact .nil
  | d :: ds, _, f, h => by
    simp only [firmAll, Bool.and_eq_true] at f
    cases h with
    | cons h1 h2 => exact .cons (dp_grow g d _ f.1 h1) (dpAll_grow g ds _ f.2 h2)
end
theorem dpAll_len {K : PySem.W.Frag} {H : Hp} : ∀ {vs : List V} {ds : List PyData}, DpAll K H vs ds → vs.length = ds.length
  | _, _, .nil => rfl
  | _, _, .cons _ t => by rw [List.length_cons, List.length_cons, dpAll_len t]
theorem dpAll_get {K : PySem.W.Frag} {H : Hp} : ∀ {vs : List V} {ds : List PyData} {i : Nat} {v : V}, DpAll K H vs ds → vs[i]? = some v → ∃ d, ds[i]? = some d ∧ Dp K H v d
  | _, _, _, _, .nil, e => by simp at e
  | _, _, 0, _, .cons h _, e => by
    simp only [List.getElem?_cons_zero, Option.some.injEq] at e
    subst e
    exact ⟨_, rfl, h⟩
  | _, _, i + 1, _, .cons _ t, e => by
    simp only [List.getElem?_cons_succ] at e ⊢
    exact dpAll_get t e
theorem dpAll_at {K : PySem.W.Frag} {H : Hp} : ∀ {vs : List V} {ds : List PyData} {i : Nat} {d : PyData}, DpAll K H vs ds → ds[i]? = some d → ∃ v, vs[i]? = some v ∧ Dp K H v d
  | _, _, _, _, .nil, e => by simp at e
  | _, _, 0, _, .cons h _, e => by
    simp only [List.getElem?_cons_zero, Option.some.injEq] at e
    subst e
    exact ⟨_, rfl, h⟩
  | _, _, i + 1, _, .cons _ t, e => by
    simp only [List.getElem?_cons_succ] at e ⊢
    exact dpAll_at t e
theorem dpAll_app {K : PySem.W.Frag} {H : Hp} : ∀ {vs ws : List V} {ds es : List PyData}, DpAll K H vs ds → DpAll K H ws es → DpAll K H (vs ++ ws) (ds ++ es)
  | _, _, _, _, .nil, t => t
  | _, _, _, _, .cons h r, t => .cons h (dpAll_app r t)
theorem dp_ints {K : PySem.W.Frag} {H : Hp} : ∀ {vs : List V} {ns : List Int}, DpAll K H vs (ns.map PyData.int) → vs = ns.map V.int
  | _, [], h => by cases h; rfl
  | _, n :: ns, h => by
    cases h with
    | cons h1 h2 =>
      cases h1
      rw [List.map_cons, dp_ints h2]
theorem ints_dp {K : PySem.W.Frag} {H : Hp} : ∀ (ns : List Int), DpAll K H (ns.map V.int) (ns.map PyData.int)
  | [] => .nil
  | n :: ns => .cons (.int n) (ints_dp ns)
/-! ### 3. the kind of data -/
def kind : PyData → String
  | .none => "NoneType"
  | .bool _ => "bool"
  | .int _ => "int"
  | .str _ => "str"
  | .list _ => "list"
  | .tuple _ => "tuple"
  | .dict _ => "dict"
theorem kind_of {K : PySem.W.Frag} {H : Hp} {v : V} {d : PyData} (h : Dp K H v d) : TyX K H v (.type (kind d)) := by
  cases h with
  | non => exact .base .non
  | bl b => exact .base (.bl b)
  | int i => exact .base (.int i)
  | str x => exact .base (.str x)
  | lst hs _ =>
    rcases hs with (h | ⟨o, h⟩) | ⟨o, its, n, h1, h2, _⟩
    · exact .base (.lst h)
    · exact .base (.frz h)
    · exact .kList h1 h2
  | tup hs _ =>
    rcases hs with (h | ⟨o, h⟩) | ⟨o, its, n, h1, h2, _⟩
    · exact .base (.tup h)
    · exact .fTuple h
    · exact .kTuple h1 h2
/-- isinstance(x, T) of data: T a built-in class that the list names -/
theorem isi_data {K : PySem.W.Frag} {H : Hp} {v : V} {d : PyData} {T : String} {Q : VK} {b : Bool} (h : Dp K H v d) (e : ∀ k ∈ ["NoneType", "bool", "int", "str", "list", "tuple"], k = kind d → PySem.W.kitOne K (.type k) (.type T) = some b)
    (q : Q (.bl b) H) : rIsi K [v, .ty T] H Q := by
  refine ⟨v, .ty T, _, .type T, b, rfl, .ty T, kind_of h, e _ ?_ rfl, q⟩
  cases h <;> simp [kind]
/-! ### 4. a list or a tuple -/
def Sq (K : PySem.W.Frag) (H : Hp) (a : Addr) (xs : List V) : Prop := SqL K H a xs ∨ SqT K H a xs
theorem same_sq {K : PySem.W.Frag} {H H' : Hp} {a : Addr} {xs : List V} (s : Same H H') (h : Sq K H a xs) : Sq K H' a xs := h.elim (fun z => .inl (s.seq z)) fun z => .inr (grow_sqT (grow_same s) z)
def iSq (K : PySem.W.Frag) (tl : TE) : TI := fun σ H R => tl σ H fun x H1 => ∃ a, x = .ref a ∧ (((∃ xs, SqL K H1 a xs) ∧ R (Itl K a) H1) ∨ ((∃ xs, SqT K H1 a xs) ∧ R (Itt K a) H1))
theorem pi_sq {X : Cx} {tg l : Expr} {tl : TE} (hl : PE X l tl) : PI X tg l (iSq X.K tl) := by
  refine ⟨fun pins s σ H R I h => thn (hl.run pins s σ H _ I h) fun v s1 z => ?_⟩
  obtain ⟨x, H1, I1, r1, a, e, q⟩ := z
  subst e
  cases r1
  have ok : ∀ {J : It} {tn : Nat → Heap → Prop} {o : Obj}, Turn X.prog X.w X.K tg J [s1.heap.objs.size] s1.heap.objs.size tn → tn 0 (s1.heap.push o) → R J H1 →
      PIE X pins σ tg R (.ref s1.heap.objs.size) { s1 with heap := s1.heap.push o } := fun {J tn o} T t0 r =>
    ⟨_, _, _, _, H1, rfl, I1.kept (t' := s1.toks) fun b u y => Heap.get?_push_of_some _ y, T, t0, fun b hb => by
      have e : b = s1.heap.objs.size := by simpa using hb
      subst e
      exact I1.fpOk (Nat.le_refl _) (I1.hok.fresh (Nat.le_refl _)), r⟩
  rcases q with ⟨⟨xs, hq⟩, q⟩ | ⟨⟨xs, hq⟩, q⟩
  · obtain ⟨its, rv, p, hz⟩ := I1.list hq
    exact wpAny_pyIter_list p.isList (ok (turn_list a _) ⟨_, Heap.get?_push_size _ rfl, rfl, rfl⟩ q)
  · obtain ⟨its, rv, p, hz⟩ := I1.tuple hq
    exact wpAny_pyIter_tuple (show s1.heap.IsTuple a its.toArray from p) (ok (turn_tuple a _) ⟨_, Heap.get?_push_size _ rfl, rfl, rfl⟩ q)
def rIxS2 (K : PySem.W.Frag) : R2 := fun x y H Q => rIxL K x y H Q ∨ rIxT K x y H Q
theorem ix_sq {X : Cx} : IxR X (rIxS2 X.K) := IxR.or ix_list ix_tup
theorem ix_at {K : PySem.W.Frag} {H : Hp} {a : Addr} {xs : List V} {i : Int} {v : V} {Q : VK} (h : Sq K H a xs) (e : atI xs i = some v) (q : Q v H) : rIxS2 K (.ref a) (.int i) H Q :=
  h.elim (fun z => .inl ⟨a, xs, i, v, rfl, rfl, z, e, q⟩) fun z => .inr ⟨a, xs, i, v, rfl, rfl, z, e, q⟩
/-- a for over either -/
theorem for_sq {K : PySem.W.Frag} {a : Addr} {xs : List V} {g : TG} {tb : TS} {D : Ends} {σ : L2.St} {H : Hp} (Pv : Nat → L2.St → Hp → Prop) (hq : Sq K H a xs) (h0 : Pv 0 σ H)
    (hl : ∀ i σ H', i ≤ xs.length → Pv i σ H' → (SqL K H a xs → SqL K H' a xs) ∧ (SqT K H a xs → SqT K H' a xs))
    (hs : ∀ i x σ H', xs[i]? = some x → Pv i σ H' → g x σ H' fun σ2 H2 => tb { D with nx := Pv (i + 1), ct := Pv (i + 1), bk := D.nx } σ2 H2) (hd : ∀ σ H', Pv xs.length σ H' → D.nx σ H') :
    (((∃ xs, SqL K H a xs) ∧ ∃ W : Nat → Nat → L2.St → Hp → Prop, (∃ m, W 0 m σ H) ∧ ∀ i m σ H, W i m σ H →
      ((Itl K a).stop i H ∧ D.nx σ H) ∨ ((Itl K a).go i H ∧ ∃ N : L2.St → Hp → Prop, (∀ σ' H', N σ' H' → ∃ m', m' < m ∧ W (i + 1) m' σ' H') ∧ ∀ x H', (Itl K a).yld i H x H' → g x σ H' fun σ2 H2 => tb { D with nx := N, ct := N, bk := D.nx } σ2 H2)) ∨
    ((∃ xs, SqT K H a xs) ∧ ∃ W : Nat → Nat → L2.St → Hp → Prop, (∃ m, W 0 m σ H) ∧ ∀ i m σ H, W i m σ H →
      ((Itt K a).stop i H ∧ D.nx σ H) ∨ ((Itt K a).go i H ∧ ∃ N : L2.St → Hp → Prop, (∀ σ' H', N σ' H' → ∃ m', m' < m ∧ W (i + 1) m' σ' H') ∧ ∀ x H', (Itt K a).yld i H x H' → g x σ H' fun σ2 H2 => tb { D with nx := N, ct := N, bk := D.nx } σ2 H2))) := by
  rcases hq with hq | hq
  · refine .inl ⟨⟨xs, hq⟩, for_it (walk_list (K := K) (a := a) (xs := xs)) Pv h0 (fun i σ H' hi p => (hl i σ H' hi p).1 hq) (fun i x σ H' H2 hi p y => ?_) hd⟩
    obtain ⟨rfl, y⟩ := y
    exact hs i x σ H2 y p
  · refine .inr ⟨⟨xs, hq⟩, for_it (walk_tup (K := K) (a := a) (xs := xs)) Pv h0 (fun i σ H' hi p => (hl i σ H' hi p).2 hq) (fun i x σ H' H2 hi p y => ?_) hd⟩
    obtain ⟨rfl, y⟩ := y
    exact hs i x σ H2 y p
end Say

set_option Elab.async false
set_option linter.all false
set_option maxRecDepth 100000
set_option maxHeartbeats 0
namespace K03
open PySem PySem.Spec PyProof.Rows L2 Say
def top (i : Nat) : Stmt := PySem.Challenge.pw_saymakers_k03_whole_prime_premises.main.body.getD i (.Pass ⟨0, 0, 0, 0⟩)
abbrev R : PySem.W.OpenRow := PySem.W.OpenLaw.row PySem.Challenge.rw_saymakers_k03_whole_prime_premises
def loose0 : List Str := ["SayError", "InvalidMakers", "InvalidRules", "InvalidBook", "InvalidRow", "InvalidPremises", "InvalidSize", "NoMaker", "NoRule", "Book", "MOST_PLACES", "SIDES", "_LETTERS", "_LONGEST_NAME", "MOST_MAKERS", "_MOST_RULES", "_wall", "is_number", "is_number_below", "is_sequence", "is_letter_sign", "is_name", "lot_of", "rows_of", "formed_row", "row_of_places", "need_places", "formed_premise", "need_premises", "holds_in"]
def loose1 : List Str := ["all_hold", "waking_rows", "is_within", "plain_premises", "least_premises", "is_maker", "wrong_maker", "makers_in_order", "formed_rule", "need_book", "need_number", "awake_rows", "_prime_of_rows", "prime_premises", "rows_premises", "prime_book", "_law_box", "_law_take", "_law_pick", "_law_premise", "_law_rows", "_law_holds", "_law_wakes", "_law_sheets", "_law_within", "_law_prime", "_law_awake", "_law_lots", "_law_error"]
def looseNames : List Str := loose0 ++ loose1
/-! the errors: their classes, and their own __init__ -/
def erSayError (K : PySem.W.Frag) : Bool := He.eqO (PySem.W.nsIn K mainGlobals "SayError") (some (some (.ref (He.ga K "SayError")))) && (ecB K (He.ga K "SayError") && ([] : List Str).all fun f => noB K (He.ga K "SayError") f)
def erInvalidMakers (K : PySem.W.Frag) : Bool := He.eqO (PySem.W.nsIn K mainGlobals "InvalidMakers") (some (some (.ref (He.ga K "InvalidMakers")))) && (ecB K (He.ga K "InvalidMakers") && (["at"] : List Str).all fun f => noB K (He.ga K "InvalidMakers") f)
def eiInvalidMakers (K : PySem.W.Frag) : Bool := He.eqO (PySem.W.findIn K (.ref (He.ga K "InvalidMakers")) "__init__") (some (some (.ref (He.ma K (He.ga K "InvalidMakers") "__init__")))) && decide (PySem.W.typeIn K (.ref (He.ma K (He.ga K "InvalidMakers") "__init__")) = some (.type "function"))
def erInvalidRules (K : PySem.W.Frag) : Bool := He.eqO (PySem.W.nsIn K mainGlobals "InvalidRules") (some (some (.ref (He.ga K "InvalidRules")))) && (ecB K (He.ga K "InvalidRules") && (["at"] : List Str).all fun f => noB K (He.ga K "InvalidRules") f)
def eiInvalidRules (K : PySem.W.Frag) : Bool := He.eqO (PySem.W.findIn K (.ref (He.ga K "InvalidRules")) "__init__") (some (some (.ref (He.ma K (He.ga K "InvalidRules") "__init__")))) && decide (PySem.W.typeIn K (.ref (He.ma K (He.ga K "InvalidRules") "__init__")) = some (.type "function"))
def erInvalidBook (K : PySem.W.Frag) : Bool := He.eqO (PySem.W.nsIn K mainGlobals "InvalidBook") (some (some (.ref (He.ga K "InvalidBook")))) && (ecB K (He.ga K "InvalidBook") && (["at"] : List Str).all fun f => noB K (He.ga K "InvalidBook") f)
def eiInvalidBook (K : PySem.W.Frag) : Bool := He.eqO (PySem.W.findIn K (.ref (He.ga K "InvalidBook")) "__init__") (some (some (.ref (He.ma K (He.ga K "InvalidBook") "__init__")))) && decide (PySem.W.typeIn K (.ref (He.ma K (He.ga K "InvalidBook") "__init__")) = some (.type "function"))
def erInvalidRow (K : PySem.W.Frag) : Bool := He.eqO (PySem.W.nsIn K mainGlobals "InvalidRow") (some (some (.ref (He.ga K "InvalidRow")))) && (ecB K (He.ga K "InvalidRow") && (["at"] : List Str).all fun f => noB K (He.ga K "InvalidRow") f)
def eiInvalidRow (K : PySem.W.Frag) : Bool := He.eqO (PySem.W.findIn K (.ref (He.ga K "InvalidRow")) "__init__") (some (some (.ref (He.ma K (He.ga K "InvalidRow") "__init__")))) && decide (PySem.W.typeIn K (.ref (He.ma K (He.ga K "InvalidRow") "__init__")) = some (.type "function"))
def erInvalidPremises (K : PySem.W.Frag) : Bool := He.eqO (PySem.W.nsIn K mainGlobals "InvalidPremises") (some (some (.ref (He.ga K "InvalidPremises")))) && (ecB K (He.ga K "InvalidPremises") && (["at"] : List Str).all fun f => noB K (He.ga K "InvalidPremises") f)
def eiInvalidPremises (K : PySem.W.Frag) : Bool := He.eqO (PySem.W.findIn K (.ref (He.ga K "InvalidPremises")) "__init__") (some (some (.ref (He.ma K (He.ga K "InvalidPremises") "__init__")))) && decide (PySem.W.typeIn K (.ref (He.ma K (He.ga K "InvalidPremises") "__init__")) = some (.type "function"))
def erInvalidSize (K : PySem.W.Frag) : Bool := He.eqO (PySem.W.nsIn K mainGlobals "InvalidSize") (some (some (.ref (He.ga K "InvalidSize")))) && (ecB K (He.ga K "InvalidSize") && (["word"] : List Str).all fun f => noB K (He.ga K "InvalidSize") f)
def eiInvalidSize (K : PySem.W.Frag) : Bool := He.eqO (PySem.W.findIn K (.ref (He.ga K "InvalidSize")) "__init__") (some (some (.ref (He.ma K (He.ga K "InvalidSize") "__init__")))) && decide (PySem.W.typeIn K (.ref (He.ma K (He.ga K "InvalidSize") "__init__")) = some (.type "function"))
def erNoMaker (K : PySem.W.Frag) : Bool := He.eqO (PySem.W.nsIn K mainGlobals "NoMaker") (some (some (.ref (He.ga K "NoMaker")))) && (ecB K (He.ga K "NoMaker") && (["name"] : List Str).all fun f => noB K (He.ga K "NoMaker") f)
def eiNoMaker (K : PySem.W.Frag) : Bool := He.eqO (PySem.W.findIn K (.ref (He.ga K "NoMaker")) "__init__") (some (some (.ref (He.ma K (He.ga K "NoMaker") "__init__")))) && decide (PySem.W.typeIn K (.ref (He.ma K (He.ga K "NoMaker") "__init__")) = some (.type "function"))
def erNoRule (K : PySem.W.Frag) : Bool := He.eqO (PySem.W.nsIn K mainGlobals "NoRule") (some (some (.ref (He.ga K "NoRule")))) && (ecB K (He.ga K "NoRule") && (["number"] : List Str).all fun f => noB K (He.ga K "NoRule") f)
def eiNoRule (K : PySem.W.Frag) : Bool := He.eqO (PySem.W.findIn K (.ref (He.ga K "NoRule")) "__init__") (some (some (.ref (He.ma K (He.ga K "NoRule") "__init__")))) && decide (PySem.W.typeIn K (.ref (He.ma K (He.ga K "NoRule") "__init__")) = some (.type "function"))
def exmB (K : PySem.W.Frag) : Bool := decide (PySem.W.exmOne K (.ref (He.ga K "SayError")) (.ref (He.ga K "SayError")) = some true) && decide (PySem.W.exmOne K (.ref (He.ga K "SayError")) (.ref (He.ga K "InvalidMakers")) = some false) && decide (PySem.W.exmOne K (.ref (He.ga K "SayError")) (.ref (He.ga K "InvalidRules")) = some false) && decide (PySem.W.exmOne K (.ref (He.ga K "SayError")) (.ref (He.ga K "InvalidBook")) = some false) && decide (PySem.W.exmOne K (.ref (He.ga K "SayError")) (.ref (He.ga K "InvalidRow")) = some false) && decide (PySem.W.exmOne K (.ref (He.ga K "SayError")) (.ref (He.ga K "InvalidPremises")) = some false) && decide (PySem.W.exmOne K (.ref (He.ga K "SayError")) (.ref (He.ga K "InvalidSize")) = some false) && decide (PySem.W.exmOne K (.ref (He.ga K "SayError")) (.ref (He.ga K "NoMaker")) = some false) && decide (PySem.W.exmOne K (.ref (He.ga K "SayError")) (.ref (He.ga K "NoRule")) = some false) && decide (PySem.W.exmOne K (.ref (He.ga K "InvalidMakers")) (.ref (He.ga K "SayError")) = some true) && decide (PySem.W.exmOne K (.ref (He.ga K "InvalidMakers")) (.ref (He.ga K "InvalidMakers")) = some true) && decide (PySem.W.exmOne K (.ref (He.ga K "InvalidMakers")) (.ref (He.ga K "InvalidRules")) = some false) && decide (PySem.W.exmOne K (.ref (He.ga K "InvalidMakers")) (.ref (He.ga K "InvalidBook")) = some false) && decide (PySem.W.exmOne K (.ref (He.ga K "InvalidMakers")) (.ref (He.ga K "InvalidRow")) = some false) && decide (PySem.W.exmOne K (.ref (He.ga K "InvalidMakers")) (.ref (He.ga K "InvalidPremises")) = some false) && decide (PySem.W.exmOne K (.ref (He.ga K "InvalidMakers")) (.ref (He.ga K "InvalidSize")) = some false) && decide (PySem.W.exmOne K (.ref (He.ga K "InvalidMakers")) (.ref (He.ga K "NoMaker")) = some false) && decide (PySem.W.exmOne K (.ref (He.ga K "InvalidMakers")) (.ref (He.ga K "NoRule")) = some false) && decide (PySem.W.exmOne K (.ref (He.ga K "InvalidRules")) (.ref (He.ga K "SayError")) = some true) && decide (PySem.W.exmOne K (.ref (He.ga K "InvalidRules")) (.ref (He.ga K "InvalidMakers")) = some false) && decide (PySem.W.exmOne K (.ref (He.ga K "InvalidRules")) (.ref (He.ga K "InvalidRules")) = some true) && decide (PySem.W.exmOne K (.ref (He.ga K "InvalidRules")) (.ref (He.ga K "InvalidBook")) = some false) && decide (PySem.W.exmOne K (.ref (He.ga K "InvalidRules")) (.ref (He.ga K "InvalidRow")) = some false) && decide (PySem.W.exmOne K (.ref (He.ga K "InvalidRules")) (.ref (He.ga K "InvalidPremises")) = some false) && decide (PySem.W.exmOne K (.ref (He.ga K "InvalidRules")) (.ref (He.ga K "InvalidSize")) = some false) && decide (PySem.W.exmOne K (.ref (He.ga K "InvalidRules")) (.ref (He.ga K "NoMaker")) = some false) && decide (PySem.W.exmOne K (.ref (He.ga K "InvalidRules")) (.ref (He.ga K "NoRule")) = some false) && decide (PySem.W.exmOne K (.ref (He.ga K "InvalidBook")) (.ref (He.ga K "SayError")) = some true) && decide (PySem.W.exmOne K (.ref (He.ga K "InvalidBook")) (.ref (He.ga K "InvalidMakers")) = some false) && decide (PySem.W.exmOne K (.ref (He.ga K "InvalidBook")) (.ref (He.ga K "InvalidRules")) = some false) && decide (PySem.W.exmOne K (.ref (He.ga K "InvalidBook")) (.ref (He.ga K "InvalidBook")) = some true) && decide (PySem.W.exmOne K (.ref (He.ga K "InvalidBook")) (.ref (He.ga K "InvalidRow")) = some false) && decide (PySem.W.exmOne K (.ref (He.ga K "InvalidBook")) (.ref (He.ga K "InvalidPremises")) = some false) && decide (PySem.W.exmOne K (.ref (He.ga K "InvalidBook")) (.ref (He.ga K "InvalidSize")) = some false) && decide (PySem.W.exmOne K (.ref (He.ga K "InvalidBook")) (.ref (He.ga K "NoMaker")) = some false) && decide (PySem.W.exmOne K (.ref (He.ga K "InvalidBook")) (.ref (He.ga K "NoRule")) = some false) && decide (PySem.W.exmOne K (.ref (He.ga K "InvalidRow")) (.ref (He.ga K "SayError")) = some true) && decide (PySem.W.exmOne K (.ref (He.ga K "InvalidRow")) (.ref (He.ga K "InvalidMakers")) = some false) && decide (PySem.W.exmOne K (.ref (He.ga K "InvalidRow")) (.ref (He.ga K "InvalidRules")) = some false) && decide (PySem.W.exmOne K (.ref (He.ga K "InvalidRow")) (.ref (He.ga K "InvalidBook")) = some false) && decide (PySem.W.exmOne K (.ref (He.ga K "InvalidRow")) (.ref (He.ga K "InvalidRow")) = some true) && decide (PySem.W.exmOne K (.ref (He.ga K "InvalidRow")) (.ref (He.ga K "InvalidPremises")) = some false) && decide (PySem.W.exmOne K (.ref (He.ga K "InvalidRow")) (.ref (He.ga K "InvalidSize")) = some false) && decide (PySem.W.exmOne K (.ref (He.ga K "InvalidRow")) (.ref (He.ga K "NoMaker")) = some false) && decide (PySem.W.exmOne K (.ref (He.ga K "InvalidRow")) (.ref (He.ga K "NoRule")) = some false) && decide (PySem.W.exmOne K (.ref (He.ga K "InvalidPremises")) (.ref (He.ga K "SayError")) = some true) && decide (PySem.W.exmOne K (.ref (He.ga K "InvalidPremises")) (.ref (He.ga K "InvalidMakers")) = some false) && decide (PySem.W.exmOne K (.ref (He.ga K "InvalidPremises")) (.ref (He.ga K "InvalidRules")) = some false) && decide (PySem.W.exmOne K (.ref (He.ga K "InvalidPremises")) (.ref (He.ga K "InvalidBook")) = some false) && decide (PySem.W.exmOne K (.ref (He.ga K "InvalidPremises")) (.ref (He.ga K "InvalidRow")) = some false) && decide (PySem.W.exmOne K (.ref (He.ga K "InvalidPremises")) (.ref (He.ga K "InvalidPremises")) = some true) && decide (PySem.W.exmOne K (.ref (He.ga K "InvalidPremises")) (.ref (He.ga K "InvalidSize")) = some false) && decide (PySem.W.exmOne K (.ref (He.ga K "InvalidPremises")) (.ref (He.ga K "NoMaker")) = some false) && decide (PySem.W.exmOne K (.ref (He.ga K "InvalidPremises")) (.ref (He.ga K "NoRule")) = some false) && decide (PySem.W.exmOne K (.ref (He.ga K "InvalidSize")) (.ref (He.ga K "SayError")) = some true) && decide (PySem.W.exmOne K (.ref (He.ga K "InvalidSize")) (.ref (He.ga K "InvalidMakers")) = some false) && decide (PySem.W.exmOne K (.ref (He.ga K "InvalidSize")) (.ref (He.ga K "InvalidRules")) = some false) && decide (PySem.W.exmOne K (.ref (He.ga K "InvalidSize")) (.ref (He.ga K "InvalidBook")) = some false) && decide (PySem.W.exmOne K (.ref (He.ga K "InvalidSize")) (.ref (He.ga K "InvalidRow")) = some false) && decide (PySem.W.exmOne K (.ref (He.ga K "InvalidSize")) (.ref (He.ga K "InvalidPremises")) = some false) && decide (PySem.W.exmOne K (.ref (He.ga K "InvalidSize")) (.ref (He.ga K "InvalidSize")) = some true) && decide (PySem.W.exmOne K (.ref (He.ga K "InvalidSize")) (.ref (He.ga K "NoMaker")) = some false) && decide (PySem.W.exmOne K (.ref (He.ga K "InvalidSize")) (.ref (He.ga K "NoRule")) = some false) && decide (PySem.W.exmOne K (.ref (He.ga K "NoMaker")) (.ref (He.ga K "SayError")) = some true) && decide (PySem.W.exmOne K (.ref (He.ga K "NoMaker")) (.ref (He.ga K "InvalidMakers")) = some false) && decide (PySem.W.exmOne K (.ref (He.ga K "NoMaker")) (.ref (He.ga K "InvalidRules")) = some false) && decide (PySem.W.exmOne K (.ref (He.ga K "NoMaker")) (.ref (He.ga K "InvalidBook")) = some false) && decide (PySem.W.exmOne K (.ref (He.ga K "NoMaker")) (.ref (He.ga K "InvalidRow")) = some false) && decide (PySem.W.exmOne K (.ref (He.ga K "NoMaker")) (.ref (He.ga K "InvalidPremises")) = some false) && decide (PySem.W.exmOne K (.ref (He.ga K "NoMaker")) (.ref (He.ga K "InvalidSize")) = some false) && decide (PySem.W.exmOne K (.ref (He.ga K "NoMaker")) (.ref (He.ga K "NoMaker")) = some true) && decide (PySem.W.exmOne K (.ref (He.ga K "NoMaker")) (.ref (He.ga K "NoRule")) = some false) && decide (PySem.W.exmOne K (.ref (He.ga K "NoRule")) (.ref (He.ga K "SayError")) = some true) && decide (PySem.W.exmOne K (.ref (He.ga K "NoRule")) (.ref (He.ga K "InvalidMakers")) = some false) && decide (PySem.W.exmOne K (.ref (He.ga K "NoRule")) (.ref (He.ga K "InvalidRules")) = some false) && decide (PySem.W.exmOne K (.ref (He.ga K "NoRule")) (.ref (He.ga K "InvalidBook")) = some false) && decide (PySem.W.exmOne K (.ref (He.ga K "NoRule")) (.ref (He.ga K "InvalidRow")) = some false) && decide (PySem.W.exmOne K (.ref (He.ga K "NoRule")) (.ref (He.ga K "InvalidPremises")) = some false) && decide (PySem.W.exmOne K (.ref (He.ga K "NoRule")) (.ref (He.ga K "InvalidSize")) = some false) && decide (PySem.W.exmOne K (.ref (He.ga K "NoRule")) (.ref (He.ga K "NoMaker")) = some false) && decide (PySem.W.exmOne K (.ref (He.ga K "NoRule")) (.ref (He.ga K "NoRule")) = some true)

def ocBook (K : PySem.W.Frag) : Bool := He.eqO (PySem.W.findIn K (.ref (He.ga K "Book")) "__class__") (some (some (.builtin "object.__class__"))) && (He.eqO (PySem.W.specialIn K (.builtin "object.__class__") "__get__") (some (some (.builtin "getset_descriptor.__get__"))) && (decide (PySem.W.takesIn K (.builtin "object.__class__") = some true) && (decide (PySem.W.mroIn K (He.ga K "Book") (.type "object") = some true) && ["NoneType", "bool", "int", "str", "list", "tuple"].all fun T => decide (PySem.W.kitOne K (.type T) (.ref (He.ga K "Book")) = some false))))
def tpSIDES (K : PySem.W.Frag) : Bool := He.eqO (PySem.W.nsIn K mainGlobals "SIDES") (some (some (.ref (He.ga K "SIDES")))) && He.tupB K "SIDES" [.str "left", .str "right"]
def neBook (K : PySem.W.Frag) : Bool := He.eqO (PySem.W.findIn K (.ref (He.ga K "Book")) "__ne__") (some (some (.builtin "object.__ne__")))
def ex (K : PySem.W.Frag) : Bool := (erSayError K && (erInvalidMakers K && (erInvalidRules K && (erInvalidBook K && (erInvalidRow K && (erInvalidPremises K && (erInvalidSize K && (erNoMaker K && (erNoRule K && (eiInvalidMakers K && (eiInvalidRules K && (eiInvalidBook K && (eiInvalidRow K && (eiInvalidPremises K && (eiInvalidSize K && (eiNoMaker K && (eiNoRule K && (exmB K && (ocBook K && (neBook K && tpSIDES K))))))))))))))))))))
def d_InvalidMakers___init__ : He.DefD := ⟨("InvalidMakers", some "__init__"), "__init__", "InvalidMakers.__init__", defArgs (inClass (top 3) 0), defBody (inClass (top 3) 0), defScope (inClass (top 3) 0), [], []⟩
def d_InvalidRules___init__ : He.DefD := ⟨("InvalidRules", some "__init__"), "__init__", "InvalidRules.__init__", defArgs (inClass (top 4) 0), defBody (inClass (top 4) 0), defScope (inClass (top 4) 0), [], []⟩
def d_InvalidBook___init__ : He.DefD := ⟨("InvalidBook", some "__init__"), "__init__", "InvalidBook.__init__", defArgs (inClass (top 5) 0), defBody (inClass (top 5) 0), defScope (inClass (top 5) 0), [], []⟩
def d_InvalidRow___init__ : He.DefD := ⟨("InvalidRow", some "__init__"), "__init__", "InvalidRow.__init__", defArgs (inClass (top 6) 0), defBody (inClass (top 6) 0), defScope (inClass (top 6) 0), [], []⟩
def d_InvalidPremises___init__ : He.DefD := ⟨("InvalidPremises", some "__init__"), "__init__", "InvalidPremises.__init__", defArgs (inClass (top 7) 0), defBody (inClass (top 7) 0), defScope (inClass (top 7) 0), [], []⟩
def d_InvalidSize___init__ : He.DefD := ⟨("InvalidSize", some "__init__"), "__init__", "InvalidSize.__init__", defArgs (inClass (top 8) 0), defBody (inClass (top 8) 0), defScope (inClass (top 8) 0), [], []⟩
def d_NoMaker___init__ : He.DefD := ⟨("NoMaker", some "__init__"), "__init__", "NoMaker.__init__", defArgs (inClass (top 9) 0), defBody (inClass (top 9) 0), defScope (inClass (top 9) 0), [], []⟩
def d_NoRule___init__ : He.DefD := ⟨("NoRule", some "__init__"), "__init__", "NoRule.__init__", defArgs (inClass (top 10) 0), defBody (inClass (top 10) 0), defScope (inClass (top 10) 0), [], []⟩
def d_Book___init__ : He.DefD := ⟨("Book", some "__init__"), "__init__", "Book.__init__", defArgs (inClass (top 43) 0), defBody (inClass (top 43) 0), defScope (inClass (top 43) 0), [], []⟩
def d_Book___eq__ : He.DefD := ⟨("Book", some "__eq__"), "__eq__", "Book.__eq__", defArgs (inClass (top 43) 1), defBody (inClass (top 43) 1), defScope (inClass (top 43) 1), [], []⟩
def d_Book_maker_places : He.DefD := ⟨("Book", some "maker_places"), "maker_places", "Book.maker_places", defArgs (inClass (top 43) 2), defBody (inClass (top 43) 2), defScope (inClass (top 43) 2), [], []⟩
def d_Book_rules_of : He.DefD := ⟨("Book", some "rules_of"), "rules_of", "Book.rules_of", defArgs (inClass (top 43) 3), defBody (inClass (top 43) 3), defScope (inClass (top 43) 3), [], []⟩
def d__wall : He.DefD := ⟨("_wall", none), "_wall", "_wall", defArgs (top 0), defBody (top 0), defScope (top 0), [], []⟩
def d_is_number : He.DefD := ⟨("is_number", none), "is_number", "is_number", defArgs (top 16), defBody (top 16), defScope (top 16), [], []⟩
def d_is_number_below : He.DefD := ⟨("is_number_below", none), "is_number_below", "is_number_below", defArgs (top 17), defBody (top 17), defScope (top 17), [], []⟩
def d_is_sequence : He.DefD := ⟨("is_sequence", none), "is_sequence", "is_sequence", defArgs (top 18), defBody (top 18), defScope (top 18), [.bl true], []⟩
def d_is_letter_sign : He.DefD := ⟨("is_letter_sign", none), "is_letter_sign", "is_letter_sign", defArgs (top 19), defBody (top 19), defScope (top 19), [], []⟩
def d_is_name : He.DefD := ⟨("is_name", none), "is_name", "is_name", defArgs (top 20), defBody (top 20), defScope (top 20), [], []⟩
def d_lot_of : He.DefD := ⟨("lot_of", none), "lot_of", "lot_of", defArgs (top 21), defBody (top 21), defScope (top 21), [], []⟩
def d_rows_of : He.DefD := ⟨("rows_of", none), "rows_of", "rows_of", defArgs (top 22), defBody (top 22), defScope (top 22), [.int (2)], []⟩
def d_formed_row : He.DefD := ⟨("formed_row", none), "formed_row", "formed_row", defArgs (top 23), defBody (top 23), defScope (top 23), [.int (2), .bl true], []⟩
def d_row_of_places : He.DefD := ⟨("row_of_places", none), "row_of_places", "row_of_places", defArgs (top 24), defBody (top 24), defScope (top 24), [.int (2), .bl true], []⟩
def d_need_places : He.DefD := ⟨("need_places", none), "need_places", "need_places", defArgs (top 26), defBody (top 26), defScope (top 26), [], []⟩
def d_formed_premise : He.DefD := ⟨("formed_premise", none), "formed_premise", "formed_premise", defArgs (top 27), defBody (top 27), defScope (top 27), [], []⟩
def d_need_premises : He.DefD := ⟨("need_premises", none), "need_premises", "need_premises", defArgs (top 28), defBody (top 28), defScope (top 28), [], []⟩
def d_holds_in : He.DefD := ⟨("holds_in", none), "holds_in", "holds_in", defArgs (top 29), defBody (top 29), defScope (top 29), [], []⟩
def d_all_hold : He.DefD := ⟨("all_hold", none), "all_hold", "all_hold", defArgs (top 30), defBody (top 30), defScope (top 30), [], []⟩
def d_waking_rows : He.DefD := ⟨("waking_rows", none), "waking_rows", "waking_rows", defArgs (top 31), defBody (top 31), defScope (top 31), [], []⟩
def d_is_within : He.DefD := ⟨("is_within", none), "is_within", "is_within", defArgs (top 32), defBody (top 32), defScope (top 32), [], []⟩
def d_plain_premises : He.DefD := ⟨("plain_premises", none), "plain_premises", "plain_premises", defArgs (top 33), defBody (top 33), defScope (top 33), [], []⟩
def d_least_premises : He.DefD := ⟨("least_premises", none), "least_premises", "least_premises", defArgs (top 34), defBody (top 34), defScope (top 34), [], []⟩
def d_is_maker : He.DefD := ⟨("is_maker", none), "is_maker", "is_maker", defArgs (top 37), defBody (top 37), defScope (top 37), [], []⟩
def d_wrong_maker : He.DefD := ⟨("wrong_maker", none), "wrong_maker", "wrong_maker", defArgs (top 38), defBody (top 38), defScope (top 38), [], []⟩
def d_makers_in_order : He.DefD := ⟨("makers_in_order", none), "makers_in_order", "makers_in_order", defArgs (top 39), defBody (top 39), defScope (top 39), [], []⟩
def d_formed_rule : He.DefD := ⟨("formed_rule", none), "formed_rule", "formed_rule", defArgs (top 40), defBody (top 40), defScope (top 40), [], []⟩
def d_need_book : He.DefD := ⟨("need_book", none), "need_book", "need_book", defArgs (top 44), defBody (top 44), defScope (top 44), [], []⟩
def d_need_number : He.DefD := ⟨("need_number", none), "need_number", "need_number", defArgs (top 45), defBody (top 45), defScope (top 45), [], []⟩
def d_awake_rows : He.DefD := ⟨("awake_rows", none), "awake_rows", "awake_rows", defArgs (top 46), defBody (top 46), defScope (top 46), [], []⟩
def d__prime_of_rows : He.DefD := ⟨("_prime_of_rows", none), "_prime_of_rows", "_prime_of_rows", defArgs (top 48), defBody (top 48), defScope (top 48), [], []⟩
def d_prime_premises : He.DefD := ⟨("prime_premises", none), "prime_premises", "prime_premises", defArgs (top 49), defBody (top 49), defScope (top 49), [], []⟩
def d_rows_premises : He.DefD := ⟨("rows_premises", none), "rows_premises", "rows_premises", defArgs (top 50), defBody (top 50), defScope (top 50), [], []⟩
def d_prime_book : He.DefD := ⟨("prime_book", none), "prime_book", "prime_book", defArgs (top 51), defBody (top 51), defScope (top 51), [], []⟩
def d__law_box : He.DefD := ⟨("_law_box", none), "_law_box", "_law_box", defArgs (top 53), defBody (top 53), defScope (top 53), [], []⟩
def d__law_take : He.DefD := ⟨("_law_take", none), "_law_take", "_law_take", defArgs (top 54), defBody (top 54), defScope (top 54), [], []⟩
def d__law_pick : He.DefD := ⟨("_law_pick", none), "_law_pick", "_law_pick", defArgs (top 55), defBody (top 55), defScope (top 55), [], []⟩
def d__law_premise : He.DefD := ⟨("_law_premise", none), "_law_premise", "_law_premise", defArgs (top 56), defBody (top 56), defScope (top 56), [], []⟩
def d__law_rows : He.DefD := ⟨("_law_rows", none), "_law_rows", "_law_rows", defArgs (top 57), defBody (top 57), defScope (top 57), [], []⟩
def d__law_holds : He.DefD := ⟨("_law_holds", none), "_law_holds", "_law_holds", defArgs (top 58), defBody (top 58), defScope (top 58), [], []⟩
def d__law_wakes : He.DefD := ⟨("_law_wakes", none), "_law_wakes", "_law_wakes", defArgs (top 59), defBody (top 59), defScope (top 59), [], []⟩
def d__law_sheets : He.DefD := ⟨("_law_sheets", none), "_law_sheets", "_law_sheets", defArgs (top 60), defBody (top 60), defScope (top 60), [], []⟩
def d__law_within : He.DefD := ⟨("_law_within", none), "_law_within", "_law_within", defArgs (top 61), defBody (top 61), defScope (top 61), [], []⟩
def d__law_prime : He.DefD := ⟨("_law_prime", none), "_law_prime", "_law_prime", defArgs (top 62), defBody (top 62), defScope (top 62), [], []⟩
def d__law_awake : He.DefD := ⟨("_law_awake", none), "_law_awake", "_law_awake", defArgs (top 63), defBody (top 63), defScope (top 63), [], []⟩
def d__law_lots : He.DefD := ⟨("_law_lots", none), "_law_lots", "_law_lots", defArgs (top 64), defBody (top 64), defScope (top 64), [], []⟩
def d__law_error : He.DefD := ⟨("_law_error", none), "_law_error", "_law_error", defArgs (top 65), defBody (top 65), defScope (top 65), [], []⟩
def d_law : He.DefD := ⟨("law", none), "law", "law", defArgs (top 66), defBody (top 66), defScope (top 66), [], []⟩
def fn : List He.DefD := [d_InvalidMakers___init__, d_InvalidRules___init__, d_InvalidBook___init__, d_InvalidRow___init__, d_InvalidPremises___init__, d_InvalidSize___init__, d_NoMaker___init__, d_NoRule___init__, d_Book___init__, d_Book___eq__, d_Book_maker_places, d_Book_rules_of, d__wall, d_is_number, d_is_number_below, d_is_sequence, d_is_letter_sign, d_is_name, d_lot_of, d_rows_of, d_formed_row, d_row_of_places, d_need_places, d_formed_premise, d_need_premises, d_holds_in, d_all_hold, d_waking_rows, d_is_within, d_plain_premises, d_least_premises, d_is_maker, d_wrong_maker, d_makers_in_order, d_formed_rule, d_need_book, d_need_number, d_awake_rows, d__prime_of_rows, d_prime_premises, d_rows_premises, d_prime_book, d__law_box, d__law_take, d__law_pick, d__law_premise, d__law_rows, d__law_holds, d__law_wakes, d__law_sheets, d__law_within, d__law_prime, d__law_awake, d__law_lots, d__law_error, d_law]
def fa : List He.Fa := [.glo "_wall", .glo "is_number", .glo "is_number_below", .glo "is_sequence", .glo "is_letter_sign", .glo "is_name", .glo "lot_of", .glo "rows_of", .glo "formed_row", .glo "row_of_places", .glo "need_places", .glo "formed_premise", .glo "need_premises", .glo "holds_in", .glo "all_hold", .glo "waking_rows", .glo "is_within", .glo "plain_premises", .glo "least_premises", .glo "is_maker", .glo "wrong_maker", .glo "makers_in_order", .glo "formed_rule", .glo "need_book", .glo "need_number", .glo "awake_rows", .glo "_prime_of_rows", .glo "prime_premises", .glo "rows_premises", .glo "prime_book", .glo "_law_box", .glo "_law_take", .glo "_law_pick", .glo "_law_premise", .glo "_law_rows", .glo "_law_holds", .glo "_law_wakes", .glo "_law_sheets", .glo "_law_within", .glo "_law_prime", .glo "_law_awake", .glo "_law_lots", .glo "_law_error", .glo "law", .free "abs", .free "all", .free "any", .free "bool", .free "dict", .free "enumerate", .free "int", .free "isinstance", .free "len", .free "list", .free "range", .free "set", .free "sorted", .free "str", .free "tuple", .int "MOST_PLACES" 3, .int "_LONGEST_NAME" 8, .int "MOST_MAKERS" 12, .int "_MOST_RULES" 60, .str "_LETTERS" "abcdefghijklmnopqrstuvwxyz", .glo "Book", .cls "Book", .mkr "Book", .noat "Book" "makers", .noat "Book" "rules", .meth "Book" "__eq__", .meth "Book" "maker_places", .meth "Book" "rules_of"]
def tfs : List He.Defn := [("law", none)]
abbrev hk : PySem.W.Hook := He.hookX 4 fa fn [] tfs ex
def ob (s : PySem.W.SharedT) : He.AlX := He.obsX 4 fa fn [] tfs ex (HandSHeadRun.getT s)
theorem ob_eq (s : PySem.W.SharedT) : ob s = hk.obs s.abs := He.obsX_eq (HandSHeadRun.getT_eq s)
theorem run (w : World) : HandSHeadRun.RunEq R (PySem.W.view R.prog [66]) hk ob 8000 looseNames w := by
  intro os
  kernel_rfl
abbrev FnP (K : PySem.W.Frag) (x : Str) (i : Nat) (dvs : List V) (f : Addr) (fd : FuncData) : Prop := FunD K x x (defArgs (top i)) (defBody (top i)) (defScope (top i)) dvs [] f fd
structure Tx (K : PySem.W.Frag) (mg : Str → Option Value) : Prop where
  c_SayError : mg "SayError" = some (.ref (He.ga K "SayError"))
  E_SayError : EC K (He.ga K "SayError")
  c_InvalidMakers : mg "InvalidMakers" = some (.ref (He.ga K "InvalidMakers"))
  E_InvalidMakers : EC K (He.ga K "InvalidMakers")
  n_InvalidMakers_at : PySem.W.findIn K (.ref (He.ga K "InvalidMakers")) "at" = some none
  I_InvalidMakers : EI K (He.ga K "InvalidMakers") (He.ma K (He.ga K "InvalidMakers") "__init__")
  c_InvalidRules : mg "InvalidRules" = some (.ref (He.ga K "InvalidRules"))
  E_InvalidRules : EC K (He.ga K "InvalidRules")
  n_InvalidRules_at : PySem.W.findIn K (.ref (He.ga K "InvalidRules")) "at" = some none
  I_InvalidRules : EI K (He.ga K "InvalidRules") (He.ma K (He.ga K "InvalidRules") "__init__")
  c_InvalidBook : mg "InvalidBook" = some (.ref (He.ga K "InvalidBook"))
  E_InvalidBook : EC K (He.ga K "InvalidBook")
  n_InvalidBook_at : PySem.W.findIn K (.ref (He.ga K "InvalidBook")) "at" = some none
  I_InvalidBook : EI K (He.ga K "InvalidBook") (He.ma K (He.ga K "InvalidBook") "__init__")
  c_InvalidRow : mg "InvalidRow" = some (.ref (He.ga K "InvalidRow"))
  E_InvalidRow : EC K (He.ga K "InvalidRow")
  n_InvalidRow_at : PySem.W.findIn K (.ref (He.ga K "InvalidRow")) "at" = some none
  I_InvalidRow : EI K (He.ga K "InvalidRow") (He.ma K (He.ga K "InvalidRow") "__init__")
  c_InvalidPremises : mg "InvalidPremises" = some (.ref (He.ga K "InvalidPremises"))
  E_InvalidPremises : EC K (He.ga K "InvalidPremises")
  n_InvalidPremises_at : PySem.W.findIn K (.ref (He.ga K "InvalidPremises")) "at" = some none
  I_InvalidPremises : EI K (He.ga K "InvalidPremises") (He.ma K (He.ga K "InvalidPremises") "__init__")
  c_InvalidSize : mg "InvalidSize" = some (.ref (He.ga K "InvalidSize"))
  E_InvalidSize : EC K (He.ga K "InvalidSize")
  n_InvalidSize_word : PySem.W.findIn K (.ref (He.ga K "InvalidSize")) "word" = some none
  I_InvalidSize : EI K (He.ga K "InvalidSize") (He.ma K (He.ga K "InvalidSize") "__init__")
  c_NoMaker : mg "NoMaker" = some (.ref (He.ga K "NoMaker"))
  E_NoMaker : EC K (He.ga K "NoMaker")
  n_NoMaker_name : PySem.W.findIn K (.ref (He.ga K "NoMaker")) "name" = some none
  I_NoMaker : EI K (He.ga K "NoMaker") (He.ma K (He.ga K "NoMaker") "__init__")
  c_NoRule : mg "NoRule" = some (.ref (He.ga K "NoRule"))
  E_NoRule : EC K (He.ga K "NoRule")
  n_NoRule_number : PySem.W.findIn K (.ref (He.ga K "NoRule")) "number" = some none
  I_NoRule : EI K (He.ga K "NoRule") (He.ma K (He.ga K "NoRule") "__init__")
  m_SayError_SayError : PySem.W.exmOne K (.ref (He.ga K "SayError")) (.ref (He.ga K "SayError")) = some true
  m_SayError_InvalidMakers : PySem.W.exmOne K (.ref (He.ga K "SayError")) (.ref (He.ga K "InvalidMakers")) = some false
  m_SayError_InvalidRules : PySem.W.exmOne K (.ref (He.ga K "SayError")) (.ref (He.ga K "InvalidRules")) = some false
  m_SayError_InvalidBook : PySem.W.exmOne K (.ref (He.ga K "SayError")) (.ref (He.ga K "InvalidBook")) = some false
  m_SayError_InvalidRow : PySem.W.exmOne K (.ref (He.ga K "SayError")) (.ref (He.ga K "InvalidRow")) = some false
  m_SayError_InvalidPremises : PySem.W.exmOne K (.ref (He.ga K "SayError")) (.ref (He.ga K "InvalidPremises")) = some false
  m_SayError_InvalidSize : PySem.W.exmOne K (.ref (He.ga K "SayError")) (.ref (He.ga K "InvalidSize")) = some false
  m_SayError_NoMaker : PySem.W.exmOne K (.ref (He.ga K "SayError")) (.ref (He.ga K "NoMaker")) = some false
  m_SayError_NoRule : PySem.W.exmOne K (.ref (He.ga K "SayError")) (.ref (He.ga K "NoRule")) = some false
  m_InvalidMakers_SayError : PySem.W.exmOne K (.ref (He.ga K "InvalidMakers")) (.ref (He.ga K "SayError")) = some true
  m_InvalidMakers_InvalidMakers : PySem.W.exmOne K (.ref (He.ga K "InvalidMakers")) (.ref (He.ga K "InvalidMakers")) = some true
  m_InvalidMakers_InvalidRules : PySem.W.exmOne K (.ref (He.ga K "InvalidMakers")) (.ref (He.ga K "InvalidRules")) = some false
  m_InvalidMakers_InvalidBook : PySem.W.exmOne K (.ref (He.ga K "InvalidMakers")) (.ref (He.ga K "InvalidBook")) = some false
  m_InvalidMakers_InvalidRow : PySem.W.exmOne K (.ref (He.ga K "InvalidMakers")) (.ref (He.ga K "InvalidRow")) = some false
  m_InvalidMakers_InvalidPremises : PySem.W.exmOne K (.ref (He.ga K "InvalidMakers")) (.ref (He.ga K "InvalidPremises")) = some false
  m_InvalidMakers_InvalidSize : PySem.W.exmOne K (.ref (He.ga K "InvalidMakers")) (.ref (He.ga K "InvalidSize")) = some false
  m_InvalidMakers_NoMaker : PySem.W.exmOne K (.ref (He.ga K "InvalidMakers")) (.ref (He.ga K "NoMaker")) = some false
  m_InvalidMakers_NoRule : PySem.W.exmOne K (.ref (He.ga K "InvalidMakers")) (.ref (He.ga K "NoRule")) = some false
  m_InvalidRules_SayError : PySem.W.exmOne K (.ref (He.ga K "InvalidRules")) (.ref (He.ga K "SayError")) = some true
  m_InvalidRules_InvalidMakers : PySem.W.exmOne K (.ref (He.ga K "InvalidRules")) (.ref (He.ga K "InvalidMakers")) = some false
  m_InvalidRules_InvalidRules : PySem.W.exmOne K (.ref (He.ga K "InvalidRules")) (.ref (He.ga K "InvalidRules")) = some true
  m_InvalidRules_InvalidBook : PySem.W.exmOne K (.ref (He.ga K "InvalidRules")) (.ref (He.ga K "InvalidBook")) = some false
  m_InvalidRules_InvalidRow : PySem.W.exmOne K (.ref (He.ga K "InvalidRules")) (.ref (He.ga K "InvalidRow")) = some false
  m_InvalidRules_InvalidPremises : PySem.W.exmOne K (.ref (He.ga K "InvalidRules")) (.ref (He.ga K "InvalidPremises")) = some false
  m_InvalidRules_InvalidSize : PySem.W.exmOne K (.ref (He.ga K "InvalidRules")) (.ref (He.ga K "InvalidSize")) = some false
  m_InvalidRules_NoMaker : PySem.W.exmOne K (.ref (He.ga K "InvalidRules")) (.ref (He.ga K "NoMaker")) = some false
  m_InvalidRules_NoRule : PySem.W.exmOne K (.ref (He.ga K "InvalidRules")) (.ref (He.ga K "NoRule")) = some false
  m_InvalidBook_SayError : PySem.W.exmOne K (.ref (He.ga K "InvalidBook")) (.ref (He.ga K "SayError")) = some true
  m_InvalidBook_InvalidMakers : PySem.W.exmOne K (.ref (He.ga K "InvalidBook")) (.ref (He.ga K "InvalidMakers")) = some false
  m_InvalidBook_InvalidRules : PySem.W.exmOne K (.ref (He.ga K "InvalidBook")) (.ref (He.ga K "InvalidRules")) = some false
  m_InvalidBook_InvalidBook : PySem.W.exmOne K (.ref (He.ga K "InvalidBook")) (.ref (He.ga K "InvalidBook")) = some true
  m_InvalidBook_InvalidRow : PySem.W.exmOne K (.ref (He.ga K "InvalidBook")) (.ref (He.ga K "InvalidRow")) = some false
  m_InvalidBook_InvalidPremises : PySem.W.exmOne K (.ref (He.ga K "InvalidBook")) (.ref (He.ga K "InvalidPremises")) = some false
  m_InvalidBook_InvalidSize : PySem.W.exmOne K (.ref (He.ga K "InvalidBook")) (.ref (He.ga K "InvalidSize")) = some false
  m_InvalidBook_NoMaker : PySem.W.exmOne K (.ref (He.ga K "InvalidBook")) (.ref (He.ga K "NoMaker")) = some false
  m_InvalidBook_NoRule : PySem.W.exmOne K (.ref (He.ga K "InvalidBook")) (.ref (He.ga K "NoRule")) = some false
  m_InvalidRow_SayError : PySem.W.exmOne K (.ref (He.ga K "InvalidRow")) (.ref (He.ga K "SayError")) = some true
  m_InvalidRow_InvalidMakers : PySem.W.exmOne K (.ref (He.ga K "InvalidRow")) (.ref (He.ga K "InvalidMakers")) = some false
  m_InvalidRow_InvalidRules : PySem.W.exmOne K (.ref (He.ga K "InvalidRow")) (.ref (He.ga K "InvalidRules")) = some false
  m_InvalidRow_InvalidBook : PySem.W.exmOne K (.ref (He.ga K "InvalidRow")) (.ref (He.ga K "InvalidBook")) = some false
  m_InvalidRow_InvalidRow : PySem.W.exmOne K (.ref (He.ga K "InvalidRow")) (.ref (He.ga K "InvalidRow")) = some true
  m_InvalidRow_InvalidPremises : PySem.W.exmOne K (.ref (He.ga K "InvalidRow")) (.ref (He.ga K "InvalidPremises")) = some false
  m_InvalidRow_InvalidSize : PySem.W.exmOne K (.ref (He.ga K "InvalidRow")) (.ref (He.ga K "InvalidSize")) = some false
  m_InvalidRow_NoMaker : PySem.W.exmOne K (.ref (He.ga K "InvalidRow")) (.ref (He.ga K "NoMaker")) = some false
  m_InvalidRow_NoRule : PySem.W.exmOne K (.ref (He.ga K "InvalidRow")) (.ref (He.ga K "NoRule")) = some false
  m_InvalidPremises_SayError : PySem.W.exmOne K (.ref (He.ga K "InvalidPremises")) (.ref (He.ga K "SayError")) = some true
  m_InvalidPremises_InvalidMakers : PySem.W.exmOne K (.ref (He.ga K "InvalidPremises")) (.ref (He.ga K "InvalidMakers")) = some false
  m_InvalidPremises_InvalidRules : PySem.W.exmOne K (.ref (He.ga K "InvalidPremises")) (.ref (He.ga K "InvalidRules")) = some false
  m_InvalidPremises_InvalidBook : PySem.W.exmOne K (.ref (He.ga K "InvalidPremises")) (.ref (He.ga K "InvalidBook")) = some false
  m_InvalidPremises_InvalidRow : PySem.W.exmOne K (.ref (He.ga K "InvalidPremises")) (.ref (He.ga K "InvalidRow")) = some false
  m_InvalidPremises_InvalidPremises : PySem.W.exmOne K (.ref (He.ga K "InvalidPremises")) (.ref (He.ga K "InvalidPremises")) = some true
  m_InvalidPremises_InvalidSize : PySem.W.exmOne K (.ref (He.ga K "InvalidPremises")) (.ref (He.ga K "InvalidSize")) = some false
  m_InvalidPremises_NoMaker : PySem.W.exmOne K (.ref (He.ga K "InvalidPremises")) (.ref (He.ga K "NoMaker")) = some false
  m_InvalidPremises_NoRule : PySem.W.exmOne K (.ref (He.ga K "InvalidPremises")) (.ref (He.ga K "NoRule")) = some false
  m_InvalidSize_SayError : PySem.W.exmOne K (.ref (He.ga K "InvalidSize")) (.ref (He.ga K "SayError")) = some true
  m_InvalidSize_InvalidMakers : PySem.W.exmOne K (.ref (He.ga K "InvalidSize")) (.ref (He.ga K "InvalidMakers")) = some false
  m_InvalidSize_InvalidRules : PySem.W.exmOne K (.ref (He.ga K "InvalidSize")) (.ref (He.ga K "InvalidRules")) = some false
  m_InvalidSize_InvalidBook : PySem.W.exmOne K (.ref (He.ga K "InvalidSize")) (.ref (He.ga K "InvalidBook")) = some false
  m_InvalidSize_InvalidRow : PySem.W.exmOne K (.ref (He.ga K "InvalidSize")) (.ref (He.ga K "InvalidRow")) = some false
  m_InvalidSize_InvalidPremises : PySem.W.exmOne K (.ref (He.ga K "InvalidSize")) (.ref (He.ga K "InvalidPremises")) = some false
  m_InvalidSize_InvalidSize : PySem.W.exmOne K (.ref (He.ga K "InvalidSize")) (.ref (He.ga K "InvalidSize")) = some true
  m_InvalidSize_NoMaker : PySem.W.exmOne K (.ref (He.ga K "InvalidSize")) (.ref (He.ga K "NoMaker")) = some false
  m_InvalidSize_NoRule : PySem.W.exmOne K (.ref (He.ga K "InvalidSize")) (.ref (He.ga K "NoRule")) = some false
  m_NoMaker_SayError : PySem.W.exmOne K (.ref (He.ga K "NoMaker")) (.ref (He.ga K "SayError")) = some true
  m_NoMaker_InvalidMakers : PySem.W.exmOne K (.ref (He.ga K "NoMaker")) (.ref (He.ga K "InvalidMakers")) = some false
  m_NoMaker_InvalidRules : PySem.W.exmOne K (.ref (He.ga K "NoMaker")) (.ref (He.ga K "InvalidRules")) = some false
  m_NoMaker_InvalidBook : PySem.W.exmOne K (.ref (He.ga K "NoMaker")) (.ref (He.ga K "InvalidBook")) = some false
  m_NoMaker_InvalidRow : PySem.W.exmOne K (.ref (He.ga K "NoMaker")) (.ref (He.ga K "InvalidRow")) = some false
  m_NoMaker_InvalidPremises : PySem.W.exmOne K (.ref (He.ga K "NoMaker")) (.ref (He.ga K "InvalidPremises")) = some false
  m_NoMaker_InvalidSize : PySem.W.exmOne K (.ref (He.ga K "NoMaker")) (.ref (He.ga K "InvalidSize")) = some false
  m_NoMaker_NoMaker : PySem.W.exmOne K (.ref (He.ga K "NoMaker")) (.ref (He.ga K "NoMaker")) = some true
  m_NoMaker_NoRule : PySem.W.exmOne K (.ref (He.ga K "NoMaker")) (.ref (He.ga K "NoRule")) = some false
  m_NoRule_SayError : PySem.W.exmOne K (.ref (He.ga K "NoRule")) (.ref (He.ga K "SayError")) = some true
  m_NoRule_InvalidMakers : PySem.W.exmOne K (.ref (He.ga K "NoRule")) (.ref (He.ga K "InvalidMakers")) = some false
  m_NoRule_InvalidRules : PySem.W.exmOne K (.ref (He.ga K "NoRule")) (.ref (He.ga K "InvalidRules")) = some false
  m_NoRule_InvalidBook : PySem.W.exmOne K (.ref (He.ga K "NoRule")) (.ref (He.ga K "InvalidBook")) = some false
  m_NoRule_InvalidRow : PySem.W.exmOne K (.ref (He.ga K "NoRule")) (.ref (He.ga K "InvalidRow")) = some false
  m_NoRule_InvalidPremises : PySem.W.exmOne K (.ref (He.ga K "NoRule")) (.ref (He.ga K "InvalidPremises")) = some false
  m_NoRule_InvalidSize : PySem.W.exmOne K (.ref (He.ga K "NoRule")) (.ref (He.ga K "InvalidSize")) = some false
  m_NoRule_NoMaker : PySem.W.exmOne K (.ref (He.ga K "NoRule")) (.ref (He.ga K "NoMaker")) = some false
  m_NoRule_NoRule : PySem.W.exmOne K (.ref (He.ga K "NoRule")) (.ref (He.ga K "NoRule")) = some true
  F_InvalidMakers___init__ : ∃ fd, FunD K "__init__" "InvalidMakers.__init__" (defArgs (inClass (top 3) 0)) (defBody (inClass (top 3) 0)) (defScope (inClass (top 3) 0)) [] [] (He.ma K (He.ga K "InvalidMakers") "__init__") fd
  F_InvalidRules___init__ : ∃ fd, FunD K "__init__" "InvalidRules.__init__" (defArgs (inClass (top 4) 0)) (defBody (inClass (top 4) 0)) (defScope (inClass (top 4) 0)) [] [] (He.ma K (He.ga K "InvalidRules") "__init__") fd
  F_InvalidBook___init__ : ∃ fd, FunD K "__init__" "InvalidBook.__init__" (defArgs (inClass (top 5) 0)) (defBody (inClass (top 5) 0)) (defScope (inClass (top 5) 0)) [] [] (He.ma K (He.ga K "InvalidBook") "__init__") fd
  F_InvalidRow___init__ : ∃ fd, FunD K "__init__" "InvalidRow.__init__" (defArgs (inClass (top 6) 0)) (defBody (inClass (top 6) 0)) (defScope (inClass (top 6) 0)) [] [] (He.ma K (He.ga K "InvalidRow") "__init__") fd
  F_InvalidPremises___init__ : ∃ fd, FunD K "__init__" "InvalidPremises.__init__" (defArgs (inClass (top 7) 0)) (defBody (inClass (top 7) 0)) (defScope (inClass (top 7) 0)) [] [] (He.ma K (He.ga K "InvalidPremises") "__init__") fd
  F_InvalidSize___init__ : ∃ fd, FunD K "__init__" "InvalidSize.__init__" (defArgs (inClass (top 8) 0)) (defBody (inClass (top 8) 0)) (defScope (inClass (top 8) 0)) [] [] (He.ma K (He.ga K "InvalidSize") "__init__") fd
  F_NoMaker___init__ : ∃ fd, FunD K "__init__" "NoMaker.__init__" (defArgs (inClass (top 9) 0)) (defBody (inClass (top 9) 0)) (defScope (inClass (top 9) 0)) [] [] (He.ma K (He.ga K "NoMaker") "__init__") fd
  F_NoRule___init__ : ∃ fd, FunD K "__init__" "NoRule.__init__" (defArgs (inClass (top 10) 0)) (defBody (inClass (top 10) 0)) (defScope (inClass (top 10) 0)) [] [] (He.ma K (He.ga K "NoRule") "__init__") fd
  F_Book___init__ : ∃ fd, FunD K "__init__" "Book.__init__" (defArgs (inClass (top 43) 0)) (defBody (inClass (top 43) 0)) (defScope (inClass (top 43) 0)) [] [] (He.ma K (He.ga K "Book") "__init__") fd
  F_Book___eq__ : ∃ fd, FunD K "__eq__" "Book.__eq__" (defArgs (inClass (top 43) 1)) (defBody (inClass (top 43) 1)) (defScope (inClass (top 43) 1)) [] [] (He.ma K (He.ga K "Book") "__eq__") fd
  F_Book_maker_places : ∃ fd, FunD K "maker_places" "Book.maker_places" (defArgs (inClass (top 43) 2)) (defBody (inClass (top 43) 2)) (defScope (inClass (top 43) 2)) [] [] (He.ma K (He.ga K "Book") "maker_places") fd
  F_Book_rules_of : ∃ fd, FunD K "rules_of" "Book.rules_of" (defArgs (inClass (top 43) 3)) (defBody (inClass (top 43) 3)) (defScope (inClass (top 43) 3)) [] [] (He.ma K (He.ga K "Book") "rules_of") fd
  F__wall : ∃ fd, FnP K "_wall" 0 [] (He.ga K "_wall") fd
  F_is_number : ∃ fd, FnP K "is_number" 16 [] (He.ga K "is_number") fd
  F_is_number_below : ∃ fd, FnP K "is_number_below" 17 [] (He.ga K "is_number_below") fd
  F_is_sequence : ∃ fd, FnP K "is_sequence" 18 [.bl true] (He.ga K "is_sequence") fd
  F_is_letter_sign : ∃ fd, FnP K "is_letter_sign" 19 [] (He.ga K "is_letter_sign") fd
  F_is_name : ∃ fd, FnP K "is_name" 20 [] (He.ga K "is_name") fd
  F_lot_of : ∃ fd, FnP K "lot_of" 21 [] (He.ga K "lot_of") fd
  F_rows_of : ∃ fd, FnP K "rows_of" 22 [.int (2)] (He.ga K "rows_of") fd
  F_formed_row : ∃ fd, FnP K "formed_row" 23 [.int (2), .bl true] (He.ga K "formed_row") fd
  F_row_of_places : ∃ fd, FnP K "row_of_places" 24 [.int (2), .bl true] (He.ga K "row_of_places") fd
  F_need_places : ∃ fd, FnP K "need_places" 26 [] (He.ga K "need_places") fd
  F_formed_premise : ∃ fd, FnP K "formed_premise" 27 [] (He.ga K "formed_premise") fd
  F_need_premises : ∃ fd, FnP K "need_premises" 28 [] (He.ga K "need_premises") fd
  F_holds_in : ∃ fd, FnP K "holds_in" 29 [] (He.ga K "holds_in") fd
  F_all_hold : ∃ fd, FnP K "all_hold" 30 [] (He.ga K "all_hold") fd
  F_waking_rows : ∃ fd, FnP K "waking_rows" 31 [] (He.ga K "waking_rows") fd
  F_is_within : ∃ fd, FnP K "is_within" 32 [] (He.ga K "is_within") fd
  F_plain_premises : ∃ fd, FnP K "plain_premises" 33 [] (He.ga K "plain_premises") fd
  F_least_premises : ∃ fd, FnP K "least_premises" 34 [] (He.ga K "least_premises") fd
  F_is_maker : ∃ fd, FnP K "is_maker" 37 [] (He.ga K "is_maker") fd
  F_wrong_maker : ∃ fd, FnP K "wrong_maker" 38 [] (He.ga K "wrong_maker") fd
  F_makers_in_order : ∃ fd, FnP K "makers_in_order" 39 [] (He.ga K "makers_in_order") fd
  F_formed_rule : ∃ fd, FnP K "formed_rule" 40 [] (He.ga K "formed_rule") fd
  F_need_book : ∃ fd, FnP K "need_book" 44 [] (He.ga K "need_book") fd
  F_need_number : ∃ fd, FnP K "need_number" 45 [] (He.ga K "need_number") fd
  F_awake_rows : ∃ fd, FnP K "awake_rows" 46 [] (He.ga K "awake_rows") fd
  F__prime_of_rows : ∃ fd, FnP K "_prime_of_rows" 48 [] (He.ga K "_prime_of_rows") fd
  F_prime_premises : ∃ fd, FnP K "prime_premises" 49 [] (He.ga K "prime_premises") fd
  F_rows_premises : ∃ fd, FnP K "rows_premises" 50 [] (He.ga K "rows_premises") fd
  F_prime_book : ∃ fd, FnP K "prime_book" 51 [] (He.ga K "prime_book") fd
  F__law_box : ∃ fd, FnP K "_law_box" 53 [] (He.ga K "_law_box") fd
  F__law_take : ∃ fd, FnP K "_law_take" 54 [] (He.ga K "_law_take") fd
  F__law_pick : ∃ fd, FnP K "_law_pick" 55 [] (He.ga K "_law_pick") fd
  F__law_premise : ∃ fd, FnP K "_law_premise" 56 [] (He.ga K "_law_premise") fd
  F__law_rows : ∃ fd, FnP K "_law_rows" 57 [] (He.ga K "_law_rows") fd
  F__law_holds : ∃ fd, FnP K "_law_holds" 58 [] (He.ga K "_law_holds") fd
  F__law_wakes : ∃ fd, FnP K "_law_wakes" 59 [] (He.ga K "_law_wakes") fd
  F__law_sheets : ∃ fd, FnP K "_law_sheets" 60 [] (He.ga K "_law_sheets") fd
  F__law_within : ∃ fd, FnP K "_law_within" 61 [] (He.ga K "_law_within") fd
  F__law_prime : ∃ fd, FnP K "_law_prime" 62 [] (He.ga K "_law_prime") fd
  F__law_awake : ∃ fd, FnP K "_law_awake" 63 [] (He.ga K "_law_awake") fd
  F__law_lots : ∃ fd, FnP K "_law_lots" 64 [] (He.ga K "_law_lots") fd
  F__law_error : ∃ fd, FnP K "_law_error" 65 [] (He.ga K "_law_error") fd
  F_law : ∃ fd, FnP K "law" 66 [] (He.ga K "law") fd
  g__wall : mg "_wall" = some (.ref (He.ga K "_wall"))
  g_is_number : mg "is_number" = some (.ref (He.ga K "is_number"))
  g_is_number_below : mg "is_number_below" = some (.ref (He.ga K "is_number_below"))
  g_is_sequence : mg "is_sequence" = some (.ref (He.ga K "is_sequence"))
  g_is_letter_sign : mg "is_letter_sign" = some (.ref (He.ga K "is_letter_sign"))
  g_is_name : mg "is_name" = some (.ref (He.ga K "is_name"))
  g_lot_of : mg "lot_of" = some (.ref (He.ga K "lot_of"))
  g_rows_of : mg "rows_of" = some (.ref (He.ga K "rows_of"))
  g_formed_row : mg "formed_row" = some (.ref (He.ga K "formed_row"))
  g_row_of_places : mg "row_of_places" = some (.ref (He.ga K "row_of_places"))
  g_need_places : mg "need_places" = some (.ref (He.ga K "need_places"))
  g_formed_premise : mg "formed_premise" = some (.ref (He.ga K "formed_premise"))
  g_need_premises : mg "need_premises" = some (.ref (He.ga K "need_premises"))
  g_holds_in : mg "holds_in" = some (.ref (He.ga K "holds_in"))
  g_all_hold : mg "all_hold" = some (.ref (He.ga K "all_hold"))
  g_waking_rows : mg "waking_rows" = some (.ref (He.ga K "waking_rows"))
  g_is_within : mg "is_within" = some (.ref (He.ga K "is_within"))
  g_plain_premises : mg "plain_premises" = some (.ref (He.ga K "plain_premises"))
  g_least_premises : mg "least_premises" = some (.ref (He.ga K "least_premises"))
  g_is_maker : mg "is_maker" = some (.ref (He.ga K "is_maker"))
  g_wrong_maker : mg "wrong_maker" = some (.ref (He.ga K "wrong_maker"))
  g_makers_in_order : mg "makers_in_order" = some (.ref (He.ga K "makers_in_order"))
  g_formed_rule : mg "formed_rule" = some (.ref (He.ga K "formed_rule"))
  g_need_book : mg "need_book" = some (.ref (He.ga K "need_book"))
  g_need_number : mg "need_number" = some (.ref (He.ga K "need_number"))
  g_awake_rows : mg "awake_rows" = some (.ref (He.ga K "awake_rows"))
  g__prime_of_rows : mg "_prime_of_rows" = some (.ref (He.ga K "_prime_of_rows"))
  g_prime_premises : mg "prime_premises" = some (.ref (He.ga K "prime_premises"))
  g_rows_premises : mg "rows_premises" = some (.ref (He.ga K "rows_premises"))
  g_prime_book : mg "prime_book" = some (.ref (He.ga K "prime_book"))
  g__law_box : mg "_law_box" = some (.ref (He.ga K "_law_box"))
  g__law_take : mg "_law_take" = some (.ref (He.ga K "_law_take"))
  g__law_pick : mg "_law_pick" = some (.ref (He.ga K "_law_pick"))
  g__law_premise : mg "_law_premise" = some (.ref (He.ga K "_law_premise"))
  g__law_rows : mg "_law_rows" = some (.ref (He.ga K "_law_rows"))
  g__law_holds : mg "_law_holds" = some (.ref (He.ga K "_law_holds"))
  g__law_wakes : mg "_law_wakes" = some (.ref (He.ga K "_law_wakes"))
  g__law_sheets : mg "_law_sheets" = some (.ref (He.ga K "_law_sheets"))
  g__law_within : mg "_law_within" = some (.ref (He.ga K "_law_within"))
  g__law_prime : mg "_law_prime" = some (.ref (He.ga K "_law_prime"))
  g__law_awake : mg "_law_awake" = some (.ref (He.ga K "_law_awake"))
  g__law_lots : mg "_law_lots" = some (.ref (He.ga K "_law_lots"))
  g__law_error : mg "_law_error" = some (.ref (He.ga K "_law_error"))
  g_law : mg "law" = some (.ref (He.ga K "law"))
  b_abs : mg "abs" = none
  b_all : mg "all" = none
  b_any : mg "any" = none
  b_bool : mg "bool" = none
  b_dict : mg "dict" = none
  b_enumerate : mg "enumerate" = none
  b_int : mg "int" = none
  b_isinstance : mg "isinstance" = none
  b_len : mg "len" = none
  b_list : mg "list" = none
  b_range : mg "range" = none
  b_set : mg "set" = none
  b_sorted : mg "sorted" = none
  b_str : mg "str" = none
  b_tuple : mg "tuple" = none
  v_MOST_PLACES : ∃ t, mg "MOST_PLACES" = some (.int 3 t)
  v__LONGEST_NAME : ∃ t, mg "_LONGEST_NAME" = some (.int 8 t)
  v_MOST_MAKERS : ∃ t, mg "MOST_MAKERS" = some (.int 12 t)
  v__MOST_RULES : ∃ t, mg "_MOST_RULES" = some (.int 60 t)
  v__LETTERS : ∃ t, mg "_LETTERS" = some (.str "abcdefghijklmnopqrstuvwxyz" t)
  g_Book : mg "Book" = some (.ref (He.ga K "Book"))
  k_Book : Cls K (He.ga K "Book")
  M_Book : Mk K (He.ga K "Book") (He.ma K (He.ga K "Book") "__init__")
  a_Book_makers : NoAttr K (He.ga K "Book") "makers"
  a_Book_rules : NoAttr K (He.ga K "Book") "rules"
  h_Book___eq__ : Meth K (He.ga K "Book") "__eq__" (He.ma K (He.ga K "Book") "__eq__")
  h_Book_maker_places : Meth K (He.ga K "Book") "maker_places" (He.ma K (He.ga K "Book") "maker_places")
  h_Book_rules_of : Meth K (He.ga K "Book") "rules_of" (He.ma K (He.ga K "Book") "rules_of")
  y_Book : ∀ (H : Hp) (a dx : Addr) (fs : List (Str × V)), H a = some (.ins (He.ga K "Book") dx fs) → TyX K H (.ref a) (.ref (He.ga K "Book"))
  kd_Book : ∀ T ∈ ["NoneType", "bool", "int", "str", "list", "tuple"], PySem.W.kitOne K (.type T) (.ref (He.ga K "Book")) = some false
  ne_Book : PySem.W.findIn K (.ref (He.ga K "Book")) "__ne__" = some (some (.builtin "object.__ne__"))
  g_SIDES : mg "SIDES" = some (.ref (He.ga K "SIDES"))
  t_SIDES : ∀ H, SqT K H (He.ga K "SIDES") [.str "left", .str "right"]
theorem and2 {a b : Bool} (h : (a && b) = true) : a = true ∧ b = true := Bool.and_eq_true_iff.mp h
theorem tx_of {w : World} {K : PySem.W.Frag} {h : Heap} {mg : Str → Option Value} (X : K.In h) (G : h.Ns mainGlobals mg) (c : He.SaysX fa fn [] tfs ex w h K) : Tx K mg := by
  have d := c.t.d
  have r0 : ex K = true := c.more
  obtain ⟨e_SayError, r1⟩ := and2 r0
  obtain ⟨e_InvalidMakers, r2⟩ := and2 r1
  obtain ⟨e_InvalidRules, r3⟩ := and2 r2
  obtain ⟨e_InvalidBook, r4⟩ := and2 r3
  obtain ⟨e_InvalidRow, r5⟩ := and2 r4
  obtain ⟨e_InvalidPremises, r6⟩ := and2 r5
  obtain ⟨e_InvalidSize, r7⟩ := and2 r6
  obtain ⟨e_NoMaker, r8⟩ := and2 r7
  obtain ⟨e_NoRule, r9⟩ := and2 r8
  obtain ⟨i_InvalidMakers, r10⟩ := and2 r9
  obtain ⟨i_InvalidRules, r11⟩ := and2 r10
  obtain ⟨i_InvalidBook, r12⟩ := and2 r11
  obtain ⟨i_InvalidRow, r13⟩ := and2 r12
  obtain ⟨i_InvalidPremises, r14⟩ := and2 r13
  obtain ⟨i_InvalidSize, r15⟩ := and2 r14
  obtain ⟨i_NoMaker, r16⟩ := and2 r15
  obtain ⟨i_NoRule, r17⟩ := and2 r16
  obtain ⟨xm, r18⟩ := and2 r17
  obtain ⟨oc_Book, r19⟩ := and2 r18
  obtain ⟨ne_Book, r20⟩ := and2 r19
  have tp_SIDES := r20
  simp only [exmB, Bool.and_eq_true] at xm
  obtain ⟨⟨⟨⟨⟨⟨⟨⟨⟨⟨⟨⟨⟨⟨⟨⟨⟨⟨⟨⟨⟨⟨⟨⟨⟨⟨⟨⟨⟨⟨⟨⟨⟨⟨⟨⟨⟨⟨⟨⟨⟨⟨⟨⟨⟨⟨⟨⟨⟨⟨⟨⟨⟨⟨⟨⟨⟨⟨⟨⟨⟨⟨⟨⟨⟨⟨⟨⟨⟨⟨⟨⟨⟨⟨⟨⟨⟨⟨⟨⟨m_SayError_SayError, m_SayError_InvalidMakers⟩, m_SayError_InvalidRules⟩, m_SayError_InvalidBook⟩, m_SayError_InvalidRow⟩, m_SayError_InvalidPremises⟩, m_SayError_InvalidSize⟩, m_SayError_NoMaker⟩, m_SayError_NoRule⟩, m_InvalidMakers_SayError⟩, m_InvalidMakers_InvalidMakers⟩, m_InvalidMakers_InvalidRules⟩, m_InvalidMakers_InvalidBook⟩, m_InvalidMakers_InvalidRow⟩, m_InvalidMakers_InvalidPremises⟩, m_InvalidMakers_InvalidSize⟩, m_InvalidMakers_NoMaker⟩, m_InvalidMakers_NoRule⟩, m_InvalidRules_SayError⟩, m_InvalidRules_InvalidMakers⟩, m_InvalidRules_InvalidRules⟩, m_InvalidRules_InvalidBook⟩, m_InvalidRules_InvalidRow⟩, m_InvalidRules_InvalidPremises⟩, m_InvalidRules_InvalidSize⟩, m_InvalidRules_NoMaker⟩, m_InvalidRules_NoRule⟩, m_InvalidBook_SayError⟩, m_InvalidBook_InvalidMakers⟩, m_InvalidBook_InvalidRules⟩, m_InvalidBook_InvalidBook⟩, m_InvalidBook_InvalidRow⟩, m_InvalidBook_InvalidPremises⟩, m_InvalidBook_InvalidSize⟩, m_InvalidBook_NoMaker⟩, m_InvalidBook_NoRule⟩, m_InvalidRow_SayError⟩, m_InvalidRow_InvalidMakers⟩, m_InvalidRow_InvalidRules⟩, m_InvalidRow_InvalidBook⟩, m_InvalidRow_InvalidRow⟩, m_InvalidRow_InvalidPremises⟩, m_InvalidRow_InvalidSize⟩, m_InvalidRow_NoMaker⟩, m_InvalidRow_NoRule⟩, m_InvalidPremises_SayError⟩, m_InvalidPremises_InvalidMakers⟩, m_InvalidPremises_InvalidRules⟩, m_InvalidPremises_InvalidBook⟩, m_InvalidPremises_InvalidRow⟩, m_InvalidPremises_InvalidPremises⟩, m_InvalidPremises_InvalidSize⟩, m_InvalidPremises_NoMaker⟩, m_InvalidPremises_NoRule⟩, m_InvalidSize_SayError⟩, m_InvalidSize_InvalidMakers⟩, m_InvalidSize_InvalidRules⟩, m_InvalidSize_InvalidBook⟩, m_InvalidSize_InvalidRow⟩, m_InvalidSize_InvalidPremises⟩, m_InvalidSize_InvalidSize⟩, m_InvalidSize_NoMaker⟩, m_InvalidSize_NoRule⟩, m_NoMaker_SayError⟩, m_NoMaker_InvalidMakers⟩, m_NoMaker_InvalidRules⟩, m_NoMaker_InvalidBook⟩, m_NoMaker_InvalidRow⟩, m_NoMaker_InvalidPremises⟩, m_NoMaker_InvalidSize⟩, m_NoMaker_NoMaker⟩, m_NoMaker_NoRule⟩, m_NoRule_SayError⟩, m_NoRule_InvalidMakers⟩, m_NoRule_InvalidRules⟩, m_NoRule_InvalidBook⟩, m_NoRule_InvalidRow⟩, m_NoRule_InvalidPremises⟩, m_NoRule_InvalidSize⟩, m_NoRule_NoMaker⟩, m_NoRule_NoRule⟩ := xm
  exact ⟨PySem.W.mg_of X G (He.eqO_ok (and2 e_SayError).1), ecB_ok (and2 (and2 e_SayError).2).1, PySem.W.mg_of X G (He.eqO_ok (and2 e_InvalidMakers).1), ecB_ok (and2 (and2 e_InvalidMakers).2).1, noB_ok (List.all_eq_true.mp (and2 (and2 e_InvalidMakers).2).2 "at" (by decide)), ⟨He.eqO_ok (and2 i_InvalidMakers).1, of_decide_eq_true (and2 i_InvalidMakers).2⟩, PySem.W.mg_of X G (He.eqO_ok (and2 e_InvalidRules).1), ecB_ok (and2 (and2 e_InvalidRules).2).1, noB_ok (List.all_eq_true.mp (and2 (and2 e_InvalidRules).2).2 "at" (by decide)), ⟨He.eqO_ok (and2 i_InvalidRules).1, of_decide_eq_true (and2 i_InvalidRules).2⟩, PySem.W.mg_of X G (He.eqO_ok (and2 e_InvalidBook).1), ecB_ok (and2 (and2 e_InvalidBook).2).1, noB_ok (List.all_eq_true.mp (and2 (and2 e_InvalidBook).2).2 "at" (by decide)), ⟨He.eqO_ok (and2 i_InvalidBook).1, of_decide_eq_true (and2 i_InvalidBook).2⟩, PySem.W.mg_of X G (He.eqO_ok (and2 e_InvalidRow).1), ecB_ok (and2 (and2 e_InvalidRow).2).1, noB_ok (List.all_eq_true.mp (and2 (and2 e_InvalidRow).2).2 "at" (by decide)), ⟨He.eqO_ok (and2 i_InvalidRow).1, of_decide_eq_true (and2 i_InvalidRow).2⟩, PySem.W.mg_of X G (He.eqO_ok (and2 e_InvalidPremises).1), ecB_ok (and2 (and2 e_InvalidPremises).2).1, noB_ok (List.all_eq_true.mp (and2 (and2 e_InvalidPremises).2).2 "at" (by decide)), ⟨He.eqO_ok (and2 i_InvalidPremises).1, of_decide_eq_true (and2 i_InvalidPremises).2⟩, PySem.W.mg_of X G (He.eqO_ok (and2 e_InvalidSize).1), ecB_ok (and2 (and2 e_InvalidSize).2).1, noB_ok (List.all_eq_true.mp (and2 (and2 e_InvalidSize).2).2 "word" (by decide)), ⟨He.eqO_ok (and2 i_InvalidSize).1, of_decide_eq_true (and2 i_InvalidSize).2⟩, PySem.W.mg_of X G (He.eqO_ok (and2 e_NoMaker).1), ecB_ok (and2 (and2 e_NoMaker).2).1, noB_ok (List.all_eq_true.mp (and2 (and2 e_NoMaker).2).2 "name" (by decide)), ⟨He.eqO_ok (and2 i_NoMaker).1, of_decide_eq_true (and2 i_NoMaker).2⟩, PySem.W.mg_of X G (He.eqO_ok (and2 e_NoRule).1), ecB_ok (and2 (and2 e_NoRule).2).1, noB_ok (List.all_eq_true.mp (and2 (and2 e_NoRule).2).2 "number" (by decide)), ⟨He.eqO_ok (and2 i_NoRule).1, of_decide_eq_true (and2 i_NoRule).2⟩, of_decide_eq_true m_SayError_SayError, of_decide_eq_true m_SayError_InvalidMakers, of_decide_eq_true m_SayError_InvalidRules, of_decide_eq_true m_SayError_InvalidBook, of_decide_eq_true m_SayError_InvalidRow, of_decide_eq_true m_SayError_InvalidPremises, of_decide_eq_true m_SayError_InvalidSize, of_decide_eq_true m_SayError_NoMaker, of_decide_eq_true m_SayError_NoRule, of_decide_eq_true m_InvalidMakers_SayError, of_decide_eq_true m_InvalidMakers_InvalidMakers, of_decide_eq_true m_InvalidMakers_InvalidRules, of_decide_eq_true m_InvalidMakers_InvalidBook, of_decide_eq_true m_InvalidMakers_InvalidRow, of_decide_eq_true m_InvalidMakers_InvalidPremises, of_decide_eq_true m_InvalidMakers_InvalidSize, of_decide_eq_true m_InvalidMakers_NoMaker, of_decide_eq_true m_InvalidMakers_NoRule, of_decide_eq_true m_InvalidRules_SayError, of_decide_eq_true m_InvalidRules_InvalidMakers, of_decide_eq_true m_InvalidRules_InvalidRules, of_decide_eq_true m_InvalidRules_InvalidBook, of_decide_eq_true m_InvalidRules_InvalidRow, of_decide_eq_true m_InvalidRules_InvalidPremises, of_decide_eq_true m_InvalidRules_InvalidSize, of_decide_eq_true m_InvalidRules_NoMaker, of_decide_eq_true m_InvalidRules_NoRule, of_decide_eq_true m_InvalidBook_SayError, of_decide_eq_true m_InvalidBook_InvalidMakers, of_decide_eq_true m_InvalidBook_InvalidRules, of_decide_eq_true m_InvalidBook_InvalidBook, of_decide_eq_true m_InvalidBook_InvalidRow, of_decide_eq_true m_InvalidBook_InvalidPremises, of_decide_eq_true m_InvalidBook_InvalidSize, of_decide_eq_true m_InvalidBook_NoMaker, of_decide_eq_true m_InvalidBook_NoRule, of_decide_eq_true m_InvalidRow_SayError, of_decide_eq_true m_InvalidRow_InvalidMakers, of_decide_eq_true m_InvalidRow_InvalidRules, of_decide_eq_true m_InvalidRow_InvalidBook, of_decide_eq_true m_InvalidRow_InvalidRow, of_decide_eq_true m_InvalidRow_InvalidPremises, of_decide_eq_true m_InvalidRow_InvalidSize, of_decide_eq_true m_InvalidRow_NoMaker, of_decide_eq_true m_InvalidRow_NoRule, of_decide_eq_true m_InvalidPremises_SayError, of_decide_eq_true m_InvalidPremises_InvalidMakers, of_decide_eq_true m_InvalidPremises_InvalidRules, of_decide_eq_true m_InvalidPremises_InvalidBook, of_decide_eq_true m_InvalidPremises_InvalidRow, of_decide_eq_true m_InvalidPremises_InvalidPremises, of_decide_eq_true m_InvalidPremises_InvalidSize, of_decide_eq_true m_InvalidPremises_NoMaker, of_decide_eq_true m_InvalidPremises_NoRule, of_decide_eq_true m_InvalidSize_SayError, of_decide_eq_true m_InvalidSize_InvalidMakers, of_decide_eq_true m_InvalidSize_InvalidRules, of_decide_eq_true m_InvalidSize_InvalidBook, of_decide_eq_true m_InvalidSize_InvalidRow, of_decide_eq_true m_InvalidSize_InvalidPremises, of_decide_eq_true m_InvalidSize_InvalidSize, of_decide_eq_true m_InvalidSize_NoMaker, of_decide_eq_true m_InvalidSize_NoRule, of_decide_eq_true m_NoMaker_SayError, of_decide_eq_true m_NoMaker_InvalidMakers, of_decide_eq_true m_NoMaker_InvalidRules, of_decide_eq_true m_NoMaker_InvalidBook, of_decide_eq_true m_NoMaker_InvalidRow, of_decide_eq_true m_NoMaker_InvalidPremises, of_decide_eq_true m_NoMaker_InvalidSize, of_decide_eq_true m_NoMaker_NoMaker, of_decide_eq_true m_NoMaker_NoRule, of_decide_eq_true m_NoRule_SayError, of_decide_eq_true m_NoRule_InvalidMakers, of_decide_eq_true m_NoRule_InvalidRules, of_decide_eq_true m_NoRule_InvalidBook, of_decide_eq_true m_NoRule_InvalidRow, of_decide_eq_true m_NoRule_InvalidPremises, of_decide_eq_true m_NoRule_InvalidSize, of_decide_eq_true m_NoRule_NoMaker, of_decide_eq_true m_NoRule_NoRule, d.def_ 0 (d := d_InvalidMakers___init__) rfl, d.def_ 1 (d := d_InvalidRules___init__) rfl, d.def_ 2 (d := d_InvalidBook___init__) rfl, d.def_ 3 (d := d_InvalidRow___init__) rfl, d.def_ 4 (d := d_InvalidPremises___init__) rfl, d.def_ 5 (d := d_InvalidSize___init__) rfl, d.def_ 6 (d := d_NoMaker___init__) rfl, d.def_ 7 (d := d_NoRule___init__) rfl, d.def_ 8 (d := d_Book___init__) rfl, d.def_ 9 (d := d_Book___eq__) rfl, d.def_ 10 (d := d_Book_maker_places) rfl, d.def_ 11 (d := d_Book_rules_of) rfl, d.def_ 12 (d := d__wall) rfl, d.def_ 13 (d := d_is_number) rfl, d.def_ 14 (d := d_is_number_below) rfl, d.def_ 15 (d := d_is_sequence) rfl, d.def_ 16 (d := d_is_letter_sign) rfl, d.def_ 17 (d := d_is_name) rfl, d.def_ 18 (d := d_lot_of) rfl, d.def_ 19 (d := d_rows_of) rfl, d.def_ 20 (d := d_formed_row) rfl, d.def_ 21 (d := d_row_of_places) rfl, d.def_ 22 (d := d_need_places) rfl, d.def_ 23 (d := d_formed_premise) rfl, d.def_ 24 (d := d_need_premises) rfl, d.def_ 25 (d := d_holds_in) rfl, d.def_ 26 (d := d_all_hold) rfl, d.def_ 27 (d := d_waking_rows) rfl, d.def_ 28 (d := d_is_within) rfl, d.def_ 29 (d := d_plain_premises) rfl, d.def_ 30 (d := d_least_premises) rfl, d.def_ 31 (d := d_is_maker) rfl, d.def_ 32 (d := d_wrong_maker) rfl, d.def_ 33 (d := d_makers_in_order) rfl, d.def_ 34 (d := d_formed_rule) rfl, d.def_ 35 (d := d_need_book) rfl, d.def_ 36 (d := d_need_number) rfl, d.def_ 37 (d := d_awake_rows) rfl, d.def_ 38 (d := d__prime_of_rows) rfl, d.def_ 39 (d := d_prime_premises) rfl, d.def_ 40 (d := d_rows_premises) rfl, d.def_ 41 (d := d_prime_book) rfl, d.def_ 42 (d := d__law_box) rfl, d.def_ 43 (d := d__law_take) rfl, d.def_ 44 (d := d__law_pick) rfl, d.def_ 45 (d := d__law_premise) rfl, d.def_ 46 (d := d__law_rows) rfl, d.def_ 47 (d := d__law_holds) rfl, d.def_ 48 (d := d__law_wakes) rfl, d.def_ 49 (d := d__law_sheets) rfl, d.def_ 50 (d := d__law_within) rfl, d.def_ 51 (d := d__law_prime) rfl, d.def_ 52 (d := d__law_awake) rfl, d.def_ 53 (d := d__law_lots) rfl, d.def_ 54 (d := d__law_error) rfl, d.def_ 55 (d := d_law) rfl, He.glo_ok X G (d.fact 0 (f := .glo "_wall") rfl), He.glo_ok X G (d.fact 1 (f := .glo "is_number") rfl), He.glo_ok X G (d.fact 2 (f := .glo "is_number_below") rfl), He.glo_ok X G (d.fact 3 (f := .glo "is_sequence") rfl), He.glo_ok X G (d.fact 4 (f := .glo "is_letter_sign") rfl), He.glo_ok X G (d.fact 5 (f := .glo "is_name") rfl), He.glo_ok X G (d.fact 6 (f := .glo "lot_of") rfl), He.glo_ok X G (d.fact 7 (f := .glo "rows_of") rfl), He.glo_ok X G (d.fact 8 (f := .glo "formed_row") rfl), He.glo_ok X G (d.fact 9 (f := .glo "row_of_places") rfl), He.glo_ok X G (d.fact 10 (f := .glo "need_places") rfl), He.glo_ok X G (d.fact 11 (f := .glo "formed_premise") rfl), He.glo_ok X G (d.fact 12 (f := .glo "need_premises") rfl), He.glo_ok X G (d.fact 13 (f := .glo "holds_in") rfl), He.glo_ok X G (d.fact 14 (f := .glo "all_hold") rfl), He.glo_ok X G (d.fact 15 (f := .glo "waking_rows") rfl), He.glo_ok X G (d.fact 16 (f := .glo "is_within") rfl), He.glo_ok X G (d.fact 17 (f := .glo "plain_premises") rfl), He.glo_ok X G (d.fact 18 (f := .glo "least_premises") rfl), He.glo_ok X G (d.fact 19 (f := .glo "is_maker") rfl), He.glo_ok X G (d.fact 20 (f := .glo "wrong_maker") rfl), He.glo_ok X G (d.fact 21 (f := .glo "makers_in_order") rfl), He.glo_ok X G (d.fact 22 (f := .glo "formed_rule") rfl), He.glo_ok X G (d.fact 23 (f := .glo "need_book") rfl), He.glo_ok X G (d.fact 24 (f := .glo "need_number") rfl), He.glo_ok X G (d.fact 25 (f := .glo "awake_rows") rfl), He.glo_ok X G (d.fact 26 (f := .glo "_prime_of_rows") rfl), He.glo_ok X G (d.fact 27 (f := .glo "prime_premises") rfl), He.glo_ok X G (d.fact 28 (f := .glo "rows_premises") rfl), He.glo_ok X G (d.fact 29 (f := .glo "prime_book") rfl), He.glo_ok X G (d.fact 30 (f := .glo "_law_box") rfl), He.glo_ok X G (d.fact 31 (f := .glo "_law_take") rfl), He.glo_ok X G (d.fact 32 (f := .glo "_law_pick") rfl), He.glo_ok X G (d.fact 33 (f := .glo "_law_premise") rfl), He.glo_ok X G (d.fact 34 (f := .glo "_law_rows") rfl), He.glo_ok X G (d.fact 35 (f := .glo "_law_holds") rfl), He.glo_ok X G (d.fact 36 (f := .glo "_law_wakes") rfl), He.glo_ok X G (d.fact 37 (f := .glo "_law_sheets") rfl), He.glo_ok X G (d.fact 38 (f := .glo "_law_within") rfl), He.glo_ok X G (d.fact 39 (f := .glo "_law_prime") rfl), He.glo_ok X G (d.fact 40 (f := .glo "_law_awake") rfl), He.glo_ok X G (d.fact 41 (f := .glo "_law_lots") rfl), He.glo_ok X G (d.fact 42 (f := .glo "_law_error") rfl), He.glo_ok X G (d.fact 43 (f := .glo "law") rfl), He.free_ok X G (d.fact 44 (f := .free "abs") rfl), He.free_ok X G (d.fact 45 (f := .free "all") rfl), He.free_ok X G (d.fact 46 (f := .free "any") rfl), He.free_ok X G (d.fact 47 (f := .free "bool") rfl), He.free_ok X G (d.fact 48 (f := .free "dict") rfl), He.free_ok X G (d.fact 49 (f := .free "enumerate") rfl), He.free_ok X G (d.fact 50 (f := .free "int") rfl), He.free_ok X G (d.fact 51 (f := .free "isinstance") rfl), He.free_ok X G (d.fact 52 (f := .free "len") rfl), He.free_ok X G (d.fact 53 (f := .free "list") rfl), He.free_ok X G (d.fact 54 (f := .free "range") rfl), He.free_ok X G (d.fact 55 (f := .free "set") rfl), He.free_ok X G (d.fact 56 (f := .free "sorted") rfl), He.free_ok X G (d.fact 57 (f := .free "str") rfl), He.free_ok X G (d.fact 58 (f := .free "tuple") rfl), He.int_ok X G (d.fact 59 (f := .int "MOST_PLACES" 3) rfl), He.int_ok X G (d.fact 60 (f := .int "_LONGEST_NAME" 8) rfl), He.int_ok X G (d.fact 61 (f := .int "MOST_MAKERS" 12) rfl), He.int_ok X G (d.fact 62 (f := .int "_MOST_RULES" 60) rfl), He.str_ok X G (d.fact 63 (f := .str "_LETTERS" "abcdefghijklmnopqrstuvwxyz") rfl), He.glo_ok X G (d.fact 64 (f := .glo "Book") rfl), He.cls_ok (d.fact 65 (f := .cls "Book") rfl), He.mkr_ok (d.fact 66 (f := .mkr "Book") rfl), He.noat_ok (d.fact 67 (f := .noat "Book" "makers") rfl), He.noat_ok (d.fact 68 (f := .noat "Book" "rules") rfl), He.meth_ok (d.fact 69 (f := .meth "Book" "__eq__") rfl), He.meth_ok (d.fact 70 (f := .meth "Book" "maker_places") rfl), He.meth_ok (d.fact 71 (f := .meth "Book" "rules_of") rfl), fun H a dx fs h => .base (.ins h (He.cls_ok (d.fact 65 (f := .cls "Book") rfl)) (He.eqO_ok (and2 oc_Book).1) (He.eqO_ok (and2 (and2 oc_Book).2).1) (of_decide_eq_true (and2 (and2 (and2 oc_Book).2).2).1) (of_decide_eq_true (and2 (and2 (and2 (and2 oc_Book).2).2).2).1)), fun T hT => of_decide_eq_true (List.all_eq_true.mp (and2 (and2 (and2 (and2 oc_Book).2).2).2).2 T hT), He.eqO_ok ne_Book, PySem.W.mg_of X G (He.eqO_ok (and2 tp_SIDES).1), fun H => He.tupB_ok (and2 tp_SIDES).2 H⟩
/-- a def that keeps its promise, and where it stands -/
def Fd (P : Program) (w : World) (K : PySem.W.Frag) (mg : Str → Option Value) (base : Heap) (CX : CXT) (k : Nat) (x : Str) (ps : List Str) (sp : Sp) : Prop :=
  ∃ fd, FnOk P w K mg base CX k (He.ga K x) fd ps sp ∧ Binds K fd ps [] ∧ PySem.W.keepIn K (.ref (He.ga K x)) = true
end K03

set_option Elab.async false
set_option linter.all false
set_option maxRecDepth 100000
set_option maxHeartbeats 4000000
/-! Dicts whose keys are nested tuples: {}, k in d, d[k] = v, list(d.values()). -/
namespace Say
open PySem PySem.Spec PyProof.Rows L2
/-! ### 1. keys -/
section
variable {X : Cx} {pins : List (Addr × Obj)} {σ : L2.St} {H : Hp} {s : Shared}
mutual
theorem nk_is (I : Inv X pins σ H s) : ∀ (k : NestedKey) (v : V) (u : Value), Dp X.K H v k.data → RelV v u → NestedIs s.heap k u
  | .none, _, _, h, r => by
    cases h
    cases r
    exact .none
  | .num i, _, _, h, r => by
    cases h
    obtain ⟨t, rfl⟩ := r
    exact .int i t
  | .text x, _, _, h, r => by
    cases h
    obtain ⟨t, rfl⟩ := r
    exact .text x t
  | .tup ks, _, _, h, r => by
    cases h with
    | tup hs ha =>
      cases r
      obtain ⟨its, rv, ⟨o, e, c, n, d⟩, _⟩ := I.tuple hs
      exact .tup e c d (by rw [List.toList_toArray]; exact nk_all I ks _ _ ha rv)
theorem nk_all (I : Inv X pins σ H s) : ∀ (ks : List NestedKey) (vs : List V) (us : List Value), DpAll X.K H vs (NestedKey.datas ks) → Vals vs us → NestedAll s.heap ks us
  | [], _, _, h, r => by
    cases h
    cases r
    exact .nil
  | k :: ks, _, _, h, r => by
    cases h with
    | cons h1 h2 =>
      cases r with
      | cons r1 r2 => exact .cons (nk_is I k _ _ h1 r1) (nk_all I ks _ _ h2 r2)
end
end
mutual
theorem nk_firm : ∀ k : NestedKey, firm k.data = true
  | .none => rfl
  | .num _ => rfl
  | .text _ => rfl
  | .tup ks => by
    show firmAll (NestedKey.datas ks) = true
    exact nk_firms ks
theorem nk_firms : ∀ ks : List NestedKey, firmAll (NestedKey.datas ks) = true
  | [] => rfl
  | k :: ks => by
    show (firm k.data && firmAll (NestedKey.datas ks)) = true
    rw [nk_firm k, nk_firms ks]
    rfl
end
/-! ### 2. the dict -/
def DictN (P : Program) (w : World) (a : Addr) (xs : List (NestedKey × Addr × Value)) : HO := .ext fun h => (a == sysModules) = false ∧
  ∃ o es ep, h.get? a = some o ∧ o.ExactDict ∧ o.data = .dict es ep ∧ es.toList = xs.map (entryOfKey (nestedKind P w)) ∧ (xs.map (·.1)).Nodup
abbrev KN (K : PySem.W.Frag) (H : Hp) : List (NestedKey × V) → List (NestedKey × Addr × Value) → Prop :=
  Paired fun (p : NestedKey × V) (q : NestedKey × Addr × Value) => p.1 = q.1 ∧ (q.1.depth ≤ 8 ∧ Dp K H (.ref q.2.1) q.1.data) ∧ RelV p.2 q.2.2
/-- at a stands a dict with nested tuples for keys -/
def DN (K : PySem.W.Frag) (P : Program) (w : World) (H : Hp) (a : Addr) (kvs : List (NestedKey × V)) : Prop := ∃ xs, H a = some (DictN P w a xs) ∧ KN K H kvs xs
theorem kn_kv {K : PySem.W.Frag} {H : Hp} : ∀ {kvs : List (NestedKey × V)} {xs : List (NestedKey × Addr × Value)}, KN K H kvs xs → KV kvs (pairsH xs)
  | _, _, .nil => .nil
  | _, _, .cons r t => .cons ⟨r.1, r.2.2⟩ (kn_kv t)
theorem kn_is {X : Cx} {pins : List (Addr × Obj)} {σ : L2.St} {H : Hp} {s : Shared} (I : Inv X pins σ H s) : ∀ {kvs : List (NestedKey × V)} {xs : List (NestedKey × Addr × Value)}, KN X.K H kvs xs → ∀ x ∈ xs, (nestedKind X.prog X.w).is s.heap x.1 x.2.1
  | _, _, .cons r t, x, hx => by
    rcases List.mem_cons.mp hx with rfl | hx
    · exact ⟨nk_is I _ _ _ r.2.1.2 rfl, r.2.1.1⟩
    · exact kn_is I t x hx
theorem kn_grow {K : PySem.W.Frag} {H H' : Hp} (g : Grow H H') : ∀ {kvs : List (NestedKey × V)} {xs : List (NestedKey × Addr × Value)}, KN K H kvs xs → KN K H' kvs xs
  | _, _, .nil => .nil
  | _, _, .cons r t => .cons ⟨r.1, ⟨r.2.1.1, dp_grow g _ _ (nk_firm _) r.2.1.2⟩, r.2.2⟩ (kn_grow g t)
theorem dn_grow {K : PySem.W.Frag} {P : Program} {w : World} {H H' : Hp} {a : Addr} {kvs : List (NestedKey × V)} (g : Grow H H') (e : H' a = H a) (h : DN K P w H a kvs) : DN K P w H' a kvs := by
  obtain ⟨xs, h1, h2⟩ := h
  exact ⟨xs, e.trans h1, kn_grow g h2⟩
theorem dn_same {K : PySem.W.Frag} {P : Program} {w : World} {H H' : Hp} {a : Addr} {kvs : List (NestedKey × V)} (g : Same H H') (h : DN K P w H a kvs) : DN K P w H' a kvs := by
  obtain ⟨xs, h1, h2⟩ := h
  exact ⟨xs, g _ _ h1, kn_grow (grow_same g) h2⟩
theorem dictN_ok {P : Program} {w : World} {H : Hp} {h : Heap} {a : Addr} {xs : List (NestedKey × Addr × Value)} (ha : (a == sysModules) = false) (D : h.DictOfH (nestedKind P w) a xs) : ObjOk P w H h a (DictN P w a xs) := by
  obtain ⟨o, es, ep, ho, ex, hd, he, _, nd⟩ := D
  exact ⟨⟨ha, o, es, ep, ho, ex, hd, he, nd⟩, ⟨o, ho⟩, fun h1 h2 ⟨q0, o, es, ep, q1, q⟩ k => ⟨q0, o, es, ep, k _ q1, q⟩⟩
theorem dn_at {X : Cx} {pins : List (Addr × Obj)} {σ : L2.St} {H : Hp} {s : Shared} {a : Addr} {xs : List (NestedKey × Addr × Value)} {kvs : List (NestedKey × V)} (I : Inv X pins σ H s) (h1 : H a = some (DictN X.prog X.w a xs)) (h2 : KN X.K H kvs xs) :
    (a == sysModules) = false ∧ s.heap.DictOfH (nestedKind X.prog X.w) a xs := by
  obtain ⟨⟨q0, o, es, ep, q1, q2, q3, q4, q5⟩, _⟩ := I.hok a _ h1
  exact ⟨q0, o, es, ep, q1, q2, q3, q4, kn_is I h2, q5⟩
/-! ### 3. the rules -/
section
variable {X : Cx}
theorem room_n {A : Around} (h : A.units + 64 < cLine) : A.in1.units + 8 < cLine := by
  rw [Around.in1_units]
  omega
/-- k in d, k not in d -/
def rInN (K : PySem.W.Frag) (P : Program) (w : World) (neg : Bool) : R2 := fun x y H Q => ∃ (b d : Addr) (k : NestedKey) (kvs : List (NestedKey × V)), x = .ref b ∧ y = .ref d ∧ Dp K H (.ref b) k.data ∧ k.depth ≤ 8 ∧ DN K P w H d kvs ∧
  Q (.bl (if neg then !(valV kvs k).isSome else (valV kvs k).isSome)) H
theorem some_eq {kvs : List (NestedKey × V)} {vs : List (NestedKey × Value)} (r : KV kvs vs) (k : NestedKey) : (valV kvs k).isSome = (valueAt vs k).isSome := by
  have h := r.val k
  cases h1 : valV kvs k <;> cases h2 : valueAt vs k <;> rw [h1, h2] at h
  · rfl
  · exact h.elim
  · exact h.elim
  · rfl
theorem op_inN (hu : X.A.units + 64 < cLine) : OpR X (compareOp .In) (rInN X.K X.prog X.w false) := by
  intro pins s σ H x y v u Q I rx ry h
  obtain ⟨b, d, k, kvs, rfl, rfl, hb, hk, ⟨xs, h1, h2⟩, q⟩ := h
  cases rx
  cases ry
  obtain ⟨z0, D⟩ := dn_at I h1 h2
  refine in_keyed (knd := nestedKind X.prog X.w) (room_n hu) ⟨nk_is I k _ _ hb rfl, hk⟩ z0 ⟨xs, D, rfl⟩ ?_
  rw [← some_eq (kn_kv h2) k]
  exact ⟨.bl _, H, I.tok _, rfl, q⟩
theorem op_notInN (hu : X.A.units + 64 < cLine) : OpR X (compareOp .NotIn) (rInN X.K X.prog X.w true) := by
  intro pins s σ H x y v u Q I rx ry h
  obtain ⟨b, d, k, kvs, rfl, rfl, hb, hk, ⟨xs, h1, h2⟩, q⟩ := h
  cases rx
  cases ry
  obtain ⟨z0, D⟩ := dn_at I h1 h2
  refine notIn_keyed (knd := nestedKind X.prog X.w) (room_n hu) ⟨nk_is I k _ _ hb rfl, hk⟩ z0 ⟨xs, D, rfl⟩ ?_
  rw [← some_eq (kn_kv h2) k]
  exact ⟨.bl _, H, I.tok _, rfl, q⟩
theorem kn_put {K : PySem.W.Frag} {H : Hp} {k : NestedKey} {a : Addr} {y : V} {u : Value} (hk : k.depth ≤ 8) (ha : Dp K H (.ref a) k.data) (ry : RelV y u) : ∀ {kvs : List (NestedKey × V)} {xs : List (NestedKey × Addr × Value)}, KN K H kvs xs → KN K H (putK kvs k y) (storedH xs k a u) := by
  intro kvs xs r
  have e1 : (kvs.any fun kv => decide (kv.1 = k)) = (atKey xs k).isSome := by
    induction r with
    | nil => rfl
    | cons r t ih =>
      rename_i p q ps qs
      by_cases e : q.1 = k
      · have e2 : p.1 = k := r.1.trans e
        simp [atKey, e, e2]
      · have e2 : ¬ p.1 = k := fun z => e (r.1.symm.trans z)
        simp only [List.any_cons, e2, decide_false, Bool.false_or]
        rw [ih]
        simp [atKey, e]
  unfold putK storedH
  rw [e1]
  split
  · clear e1
    rename_i z
    clear z
    induction r with
    | nil => exact .nil
    | cons r t ih =>
      rename_i p q ps qs
      refine .cons ?_ ih
      by_cases e : q.1 = k
      · have e2 : p.1 = k := r.1.trans e
        simp only [e2, if_true, putAt, e]
        exact ⟨trivial, ⟨hk, by rw [← e]; exact r.2.1.2⟩, ry⟩
      · have e2 : ¬ p.1 = k := fun z => e (r.1.symm.trans z)
        simp only [e2, if_false, putAt, e]
        exact r
  · have app : ∀ {kvs : List (NestedKey × V)} {xs : List (NestedKey × Addr × Value)}, KN K H kvs xs → KN K H (kvs ++ [(k, y)]) (xs ++ [(k, a, u)]) := by
      intro kvs xs r
      induction r with
      | nil => exact .cons ⟨rfl, ⟨hk, ha⟩, ry⟩ .nil
      | cons r t ih => exact .cons r ih
    exact app r
/-- d[k] = v -/
def rSetN (K : PySem.W.Frag) (P : Program) (w : World) : TSet := fun o i v H Q => ∃ (d b : Addr) (k : NestedKey) (kvs : List (NestedKey × V)), o = .ref d ∧ i = .ref b ∧ Dp K H (.ref b) k.data ∧ k.depth ≤ 8 ∧ DN K P w H d kvs ∧ kvs.length < sizeLine ∧
  ∀ u, DN K P w (upd H d u) d (putK kvs k v) → Grow H (upd H d u) → Q (upd H d u)
theorem grow_ext {H : Hp} {p : Addr} {φ : Heap → Prop} {o : HO} (h : H p = some (.ext φ)) : Grow H (upd H p o) :=
  ⟨fun a ys q => by rw [upd_ne (ne_of q h (by intro z; cases z))]; exact q, fun a o2 u q => by rw [upd_ne (ne_of q h (by intro z; cases z))]; exact q⟩
theorem set_N (hu : X.A.units + 64 < cLine) : PSet X (rSetN X.K X.prog X.w) := by
  intro pins s σ H o i v ov iv u Q I ro ri rv h
  obtain ⟨d, b, k, kvs, rfl, rfl, hb, hk, ⟨xs, h1, h2⟩, hl, q⟩ := h
  cases ro
  cases ri
  obtain ⟨z0, D⟩ := dn_at I h1 h2
  have lx : xs.length = kvs.length := by
    have := (kn_kv h2).length
    rw [pairsH_length] at this
    omega
  have g : Grow H (upd H d (DictN X.prog X.w d (storedH xs k b u))) := grow_ext h1
  refine wpAny_setItem_heap (knd := nestedKind X.prog X.w) (hsz := by omega) (room_n hu) ⟨nk_is I k _ _ hb rfl, hk⟩ D fun h' D' sb => ?_
  have heo : ∃ u, h'.get? d = some u := by
    obtain ⟨o, _, _, ho, _⟩ := D'
    exact ⟨o, ho⟩
  exact ⟨_, I.write (e := d) (t' := s.toks + (nestedKind X.prog X.w).draws k) (by rw [h1]; trivial) (.inl rfl) (fun b u hb hu => (sb.2 b hb).trans hu) heo (dictN_ok z0 D'),
    q _ ⟨_, upd_same, kn_grow g (kn_put hk hb rv h2)⟩ g⟩
/-- {} -/
def tDNewN (K : PySem.W.Frag) (P : Program) (w : World) : TE := fun _ H Q => ∀ p, H p = none → ∀ u, DN K P w (upd H p u) p [] → Q (.ref p) (upd H p u)
theorem pe_dnewN {pos : Pos} : PE X (.Dict [] [] pos) (tDNewN X.K X.prog X.w) := ⟨fun pins s σ H Q I h =>
  wpAny_Dict_empty ⟨.ref s.heap.objs.size, _, I.laid (a := s.heap.objs.size) (o := DictN X.prog X.w s.heap.objs.size []) (t' := s.toks) (fun _ _ q => Heap.get?_push_of_some _ q) (Nat.le_refl _)
    (dictN_ok (beq_eq_false_iff_ne.mpr (Ne.symm (Nat.ne_of_lt I.big))) (Heap.DictOfH.new _)), rfl, h _ (I.hok.fresh (Nat.le_refl _)) _ ⟨[], upd_same, .nil⟩⟩⟩
/-! ### 4. list(d.values()) -/
theorem kdl_valuesR {prog : Program} {w : World} {r d : Addr} {es : Array DictEntry} {ep : Nat} : PySem.W.KdlSrc prog w "dict_values" r d es.size (fun i v => ∃ hi : i < es.size, v = es[i].val) (fun h => h.IsValuesView r d ∧ h.DictRaw d es ep) where
  type := fun _ hm => hm.1.typeIs
  there := fun _ hm => ⟨let ⟨_, ho, _⟩ := hm.1; Heap.lt_size ho, let ⟨_, ho, _⟩ := hm.2; Heap.lt_size ho⟩
  keep := fun _ _ hm hk => ⟨let ⟨o, ho, x⟩ := hm.1; ⟨o, hk r (.inl rfl) o ho, x⟩, hm.2.at fun o e => hk d (.inr rfl) o e⟩
  notList := by decide
  notTuple := by decide
  hint := fun _ _ _ _ hm hq => PySem.W.kdl_hint_values hm.1.typeIs hq
  iter := fun _ _ hh hm => ⟨_, _, (fun _ _ hq => wpAny_pyIter_values_raw hm.1 hm.2 hq), Walks.rawValues hh _ d (let ⟨_, ho, _⟩ := hm.2; Nat.ne_of_lt (Heap.lt_size ho)) es ep, ⟨⟨_, Heap.get?_push_size _ rfl, rfl, rfl⟩, hm.2.at fun o e => Heap.get?_push_of_some _ e⟩⟩
def rValsN (K : PySem.W.Frag) (P : Program) (w : World) : V → Hp → VK → Prop := fun x H Q => ∃ (d : Addr) (kvs : List (NestedKey × V)), x = .ref d ∧ DN K P w H d kvs ∧ kvs.length ≤ sizeLine ∧ ∀ p, H p = none → Q (.ref p) (upd H p (.lst (kvs.map (·.2))))
def tListValsN (K : PySem.W.Frag) (P : Program) (w : World) (te : TE) : TE := fun σ H Q => te σ H fun x H1 => rValsN K P w x H1 Q
theorem vals_of_entries {kvs : List (NestedKey × V)} {xs : List (NestedKey × Addr × Value)} {K : PySem.W.Frag} {H : Hp} (r : KN K H kvs xs) : Vals (kvs.map (·.2)) (xs.map (·.2.2)) := by
  induction r with
  | nil => exact .nil
  | cons r t ih => exact .cons r.2.2 ih
theorem pe_listValsN {e : Expr} {te : TE} {p apos cpos pos : Pos} (hc : X.calm = true) (he : PE X e te) (hg : Gl X "list") (hm : X.mg "list" = none) (hv : bootBuiltins "list" = some (.type "list") := by decide +kernel) (hbase : attributeBase e "values" X.env (eval e X.env) = eval e X.env := by rfl) (hline : (apos.endLine == cpos.line) = true := by rfl)
    (hs : starEach [.Call (.Attribute e "values" apos) [] [] cpos] X.env = (false, eval (.Call (.Attribute e "values" apos) [] [] cpos) X.env) :: starEach [] X.env := by rfl) :
    PE X (.Call (.Name "list" p) [.Call (.Attribute e "values" apos) [] [] cpos] [] pos) (tListValsN X.K X.prog X.w te) := by
  refine ⟨fun pins s σ H Q I hq => ?_⟩
  refine wpAny_Call_Name_kw (ld_blt I hg hm hv ?_)
  refine PyProof.Rows.callWith_type1 ?_ hs rfl
  rw [hs]
  show wpAny _ _ (spliced ((false, eval (.Call (.Attribute e "values" apos) [] [] cpos) X.env) :: backTo pos (starEach [] X.env))) _ _ s
  refine Calls.spliced_cons ?_
  refine wpAny_Call_method (T := "dict") (id := "dict.values") hbase rfl hline F.plainAttrs_dict F.slot_dict_values F.type_dict_values (thn (he.run pins s σ H _ I hq) fun u s1 ⟨x, H1, I1, rx, d, kvs, ex, hd, hz, q⟩ => ?_)
  subst ex
  obtain rfl : u = Value.ref d := rx
  obtain ⟨xs, h1, h2⟩ := hd
  obtain ⟨z0, D⟩ := dn_at I1 h1 h2
  obtain ⟨o, es, ep, ho, hx, hdat, hes, _, _⟩ := id D
  have raw : s1.heap.DictRaw d es ep := ⟨o, ho, hx, hdat⟩
  have I2 : Inv X pins σ H1 { s1 with heap := s1.heap.push { cls := .type "dict_values", data := .fields #[.ref d] } } := I1.kept (t' := s1.toks) fun b ob q => Heap.get?_push_of_some _ q
  have nd : ∀ a, Value.ref d = .ref a → ∃ ob, s1.heap.get? a = some ob ∧ ob.dict = none := fun a e => by
    cases e
    exact ⟨o, ho, hx.2.1⟩
  refine ⟨D.typeIs, nd, ?_⟩
  show wpAny _ _ (callWith cpos (.builtin "dict.values") [.ref d] [] []) _ X.xe s1
  refine method_meetsIn F.slot_dict_values F.entry_dict_values rfl (PySem.evalArgs_none ⟨rfl, D.typeIs, F.args_dict_values_1 _, _, meets_dict_values_raw d z0, ⟨es, ep, raw⟩, ?_⟩)
  refine Calls.spliced_nil ?_
  have lk : es.size = kvs.length := by
    have a1 : es.toList.length = xs.length := by rw [hes, List.length_map]
    have a2 := (kn_kv h2).length
    rw [pairsH_length] at a2
    rw [Array.length_toList] at a1
    omega
  refine PySem.W.kdl_call (kdl_valuesR (es := es) (ep := ep)) (I1.ok.hd hc) ⟨⟨_, Heap.get?_push_size _ rfl, rfl, rfl⟩, raw.at fun o e => Heap.get?_push_of_some _ e⟩ (by omega) fun h' tk acc c hk hS hacc => ?_
  have ev : acc.toList = xs.map (·.2.2) := by
    refine List.ext_getElem? fun i => ?_
    rw [List.getElem?_map, Array.getElem?_toList]
    have e2 : es[i]? = (xs[i]?).map (entryOfKey (nestedKind X.prog X.w)) := by rw [← Array.getElem?_toList, hes, List.getElem?_map]
    by_cases hi : i < acc.size
    · obtain ⟨v, hv⟩ : ∃ v, acc[i]? = some v := ⟨acc[i], by simp [hi]⟩
      obtain ⟨hj, e3⟩ := hacc.2 i v hv
      rw [hv]
      rw [show es[i]? = some es[i] from by simp [hj]] at e2
      cases e4 : xs[i]? with
      | none =>
        rw [e4] at e2
        cases e2
      | some y =>
        rw [e4] at e2
        have e5 := Option.some.inj e2
        rw [e3, e5]
        rfl
    · have h3 : es.size ≤ i := by
        have := hacc.1
        omega
      rw [show acc[i]? = none from by simp; omega]
      rw [show es[i]? = none from by simp; omega] at e2
      cases e4 : xs[i]? with
      | none => rfl
      | some y =>
        rw [e4] at e2
        cases e2
  refine ⟨.ref _, _, I2.laid (a := (s1.heap.push { cls := .type "dict_values", data := .fields #[.ref d] }).objs.size) (o := .lst (kvs.map (·.2))) (t' := tk) hk (Nat.le_refl _) ⟨by rw [List.length_map]; exact hz, acc.toList, c, by rw [ev]; exact vals_of_entries h2, by rw [Array.toArray_toList]; exact hS⟩, rfl, q _ (I2.hok.fresh (Nat.le_refl _))⟩
end
end Say

set_option Elab.async false
set_option linter.all false
set_option maxRecDepth 100000
set_option maxHeartbeats 4000000
/-! set(..) of a list or a tuple of nested tuples (numbers, texts, None within); sorted of it. -/
namespace Say
open PySem PySem.Spec PyProof.Rows L2
/-! ### 1. what a set asks of a nested key -/
mutual
/-- no text within -/
def byVal : NestedKey → Bool
  | .none => true
  | .num _ => true
  | .text _ => false
  | .tup ks => byVals ks
def byVals : List NestedKey → Bool
  | [] => true
  | k :: ks => byVal k && byVals ks
end
section
variable {P : Program} {w : World}
structure Asked (P : Program) (w : World) (n : Nat) (s : Shared) (k : NestedKey) (v : Value) : Prop where
  hash : ∀ (A : Around) (E : Value → Shared → Prop) (Q : Bool → Shared → Prop), Q (byVal k) s → wpAny (model P w) A (hashByValue n v) Q E s
  cls : ∀ (A : Around) (E : Value → Shared → Prop) (Q : Bool → Shared → Prop), Q false s → wpAny (model P w) A (ofAClassStatement n v) Q E s
theorem asked_tup {n m : Nat} {s : Shared} {a : Addr} {o : Obj} {vs : Array Value} {ks : List NestedKey} (ho : s.heap.get? a = some o) (hc : o.cls = .type "tuple") (hd : o.data = .seq vs m)
    (p : Paired (fun k v => Asked P w n s k v) ks vs.toList) : Asked P w (n + 1) s (.tup ks) (.ref a) := by
  have T : s.TypeIs (.ref a) "tuple" := ⟨o, ho, hc⟩
  refine ⟨fun A E Q q => ?_, fun A E Q q => ?_⟩
  · unfold hashByValue
    refine wpAny_bind (wpAny_specialOf T F.slot_tuple_hash.lookup ?_)
    show wpAny _ _ (seqItems? (.ref a) >>= _) _ _ s
    refine wpAny_bind (wpAny_seqItems ho hd (wpAny_bind ?_))
    show wpAny _ _ (forIn vs _ _) _ _ s
    rw [← Array.forIn_toList]
    refine wpAny_forIn_list _ (fun rest r s' => r.1 = none ∧ s' = s ∧ ∃ kr, Paired (fun k v => Asked P w n s k v) kr rest ∧ byVals ks = byVals kr) _ ?_ ?_ _ _ ⟨rfl, rfl, ks, p, rfl⟩
    · rintro v rest r s' ⟨_, rfl, kr, pr, e⟩
      cases pr with
      | @cons k _ kt _ h t =>
        refine wpAny_bind (h.hash _ _ _ ?_)
        cases b : byVal k with
        | true =>
          simp only [Bool.not_true, Bool.false_eq_true, if_false]
          refine wpAny_pure ⟨rfl, rfl, kt, t, ?_⟩
          rw [e, byVals, b, Bool.true_and]
        | false =>
          simp only [Bool.not_false, if_true]
          have z : byVals ks = false := by rw [e, byVals, b, Bool.false_and]
          refine wpAny_pure (wpAny_pure ?_)
          rw [show byVal (.tup ks) = byVals ks from rfl, z] at q
          exact q
    · rintro ⟨r1, r2⟩ s' ⟨hr, rfl, kr, pr, e⟩
      cases hr
      cases pr
      rw [show byVal (.tup ks) = byVals ks from rfl, e] at q
      exact wpAny_pure q
  · unfold ofAClassStatement
    refine wpAny_bind (wpAny_typeOf T ?_)
    dsimp only
    simp only [show (("tuple" : String) == "tuple") = true from by decide, if_true, Bool.not_true, Bool.false_eq_true, if_false]
    try refine wpAny_bind (wpAny_pure ?_)
    try simp only [Bool.not_true, Bool.false_eq_true, if_false]
    show wpAny _ _ (seqItems? (.ref a) >>= _) _ _ s
    refine wpAny_bind (wpAny_seqItems ho hd ?_)
    dsimp only
    refine wpAny_bind ?_
    show wpAny _ _ (forIn vs _ _) _ _ s
    rw [← Array.forIn_toList]
    refine wpAny_forIn_list _ (fun rest r s' => r.1 = none ∧ s' = s ∧ ∃ kr, Paired (fun k v => Asked P w n s k v) kr rest) _ ?_ ?_ _ _ ⟨rfl, rfl, ks, p⟩
    · rintro v rest r s' ⟨_, rfl, kr, pr⟩
      cases pr with
      | cons h t =>
        refine wpAny_bind (h.cls _ _ _ ?_)
        simp only [Bool.false_eq_true, if_false]
        exact wpAny_pure ⟨rfl, rfl, _, t⟩
    · rintro ⟨r1, r2⟩ s' ⟨hr, rfl, _⟩
      cases hr
      exact wpAny_pure q
mutual
theorem asked_key : ∀ (k : NestedKey) (v : Value) (n : Nat) (s : Shared), NestedIs s.heap k v → k.depth ≤ n → Asked P w n s k v
  | .none, _, n, s, x, _ => by
    cases x
    exact ⟨fun A E Q q => by cases n <;> exact wpAny_pure q, fun A E Q q => by cases n <;> exact wpAny_pure q⟩
  | .num i, _, n, s, x, _ => by
    cases x with
    | bool e => exact ⟨fun A E Q q => by cases n <;> exact wpAny_pure q, fun A E Q q => by cases n <;> exact wpAny_pure q⟩
    | int _ t => exact ⟨fun A E Q q => by cases n <;> exact wpAny_pure q, fun A E Q q => by cases n <;> exact wpAny_pure q⟩
  | .text y, _, n, s, x, _ => by
    cases x
    exact ⟨fun A E Q q => by cases n <;> exact wpAny_pure q, fun A E Q q => by cases n <;> exact wpAny_pure q⟩
  | .tup ks, _, n, s, x, hn => by
    cases x with
    | tup hg hc hd hk =>
      have hn' : NestedKey.depthAll ks + 1 ≤ n := hn
      cases n with
      | zero => omega
      | succ n => exact asked_tup hg hc hd (asked_keys ks _ n s hk (by omega))
theorem asked_keys : ∀ (ks : List NestedKey) (vs : List Value) (n : Nat) (s : Shared), NestedAll s.heap ks vs → NestedKey.depthAll ks ≤ n → Paired (fun k v => Asked P w n s k v) ks vs
  | [], _, n, s, x, _ => by
    cases x
    exact .nil
  | k :: ks, _, n, s, x, hn => by
    cases x with
    | cons x1 x2 =>
      have hn' : max k.depth (NestedKey.depthAll ks) ≤ n := hn
      exact .cons (asked_key k _ n s x1 (by omega)) (asked_keys ks _ n s x2 (by omega))
end
/-- the nested tuple at b is k -/
def IsN (h : Heap) (k : NestedKey) (b : Addr) : Prop := NestedIs h k (.ref b) ∧ k.depth ≤ 8
theorem IsN.keep {h h' : Heap} {k : NestedKey} {b : Addr} (x : IsN h k b) (hk : ∀ c o, h.get? c = some o → h'.get? c = some o) : IsN h' k b := ⟨NestedIs.at (fun c o _ _ e _ => hk c o e) k _ x.1, x.2⟩
/-- a set that changes is no nested key -/
theorem IsN.beside {h h' : Heap} {k : NestedKey} {a b : Addr} {o : Obj} {es : Array (Int × Value)} {ep : Nat} {t : SetTable} (x : IsN h k b) (ho : h.get? a = some o) (hd : o.data = .set es ep t) (hs : Heap.SameBut a h h') : IsN h' k b :=
  ⟨NestedIs.at (fun c u vs n hc hv => (hs.2 c fun e => by
    subst e
    rw [ho] at hc
    cases hc
    rw [hd] at hv
    cases hv).trans hc) k _ x.1, x.2⟩
theorem IsN.same {h : Heap} {k l : NestedKey} {b : Addr} (x : IsN h k b) (y : IsN h l b) : k = l := NestedIs.inj _ _ _ x.1 y.1
theorem IsN.asked {s : Shared} {k : NestedKey} {b : Addr} (x : IsN s.heap k b) : Asked P w 8 s k (.ref b) := asked_key k _ 8 s x.1 x.2
theorem IsN.quiet {A : Around} {E : Value → Shared → Prop} {s : Shared} {k : NestedKey} {b : Addr} {Q : Bool → Shared → Prop} (x : IsN s.heap k b) (q : Q true s) : wpAny (model P w) A (eqIsQuiet 8 (.ref b)) Q E s := quiet_key k _ 8 s x.1 x.2 A E Q q
/-- the search among nested keys shows nothing -/
theorem not_seen {A : Around} {E : Value → Shared → Prop} {s : Shared} {k : NestedKey} {b : Addr} {Q : Bool → Shared → Prop} (x : IsN s.heap k b) {ys : List Value} (hy : ∀ y ∈ ys, ∃ l c, y = Value.ref c ∧ IsN s.heap l c) (q : Q false s) :
    wpAny (model P w) A (searchCouldBeSeen (.ref b) ys) Q E s := by
  unfold searchCouldBeSeen
  refine wpAny_bind (wpAny_forIn_list _ (fun rest r s' => r.1 = none ∧ s' = s ∧ ∀ y ∈ rest, ∃ l c, y = Value.ref c ∧ IsN s.heap l c) _ ?_ ?_ _ _ ⟨rfl, rfl, hy⟩)
  · rintro v rest r s' ⟨_, rfl, all⟩
    obtain ⟨l, c, rfl, xc⟩ := all v List.mem_cons_self
    have more : ∀ y ∈ rest, ∃ l c, y = Value.ref c ∧ IsN s'.heap l c := fun y hy => all y (List.mem_cons_of_mem _ hy)
    dsimp only
    by_cases very : (b == c || (carriedByValue (.ref b) && carriedByValue (.ref c))) = true
    · exact wp_if_pos very (wpAny_pure ⟨rfl, rfl, more⟩)
    · refine wp_if_neg very (wpAny_bind (x.quiet ?_))
      simp only [Bool.not_true, Bool.false_eq_true, if_false]
      refine wpAny_bind (xc.quiet ?_)
      simp only [Bool.not_true, Bool.false_eq_true, if_false]
      refine wpAny_bind (x.asked.cls _ _ _ ?_)
      simp only [Bool.false_eq_true, if_false]
      refine wpAny_bind (xc.asked.cls _ _ _ ?_)
      simp only [Bool.false_eq_true, if_false]
      exact wpAny_pure ⟨rfl, rfl, more⟩
  · rintro ⟨r1, r2⟩ s' ⟨hr, rfl, _⟩
    cases hr
    exact wpAny_pure q
end
end Say

set_option Elab.async false
set_option linter.all false
set_option maxRecDepth 100000
set_option maxHeartbeats 8000000
namespace Say
open PySem PySem.Spec PyProof.Rows L2
/-! ### 2. the set as it stands -/
abbrev KA := NestedKey × Addr
abbrev hsh (w : World) (e : KA) : Int := e.1.hash w
def entsN (w : World) (L : List KA) : List (Int × Value) := L.map fun e => (hsh w e, Value.ref e.2)
structure SetN (w : World) (h : Heap) (a : Addr) (L : List KA) (es : Array (Int × Value)) (ep : Nat) (t : SetTable) : Prop where
  here : ∃ o, h.get? a = some o ∧ o.ExactSet ∧ o.data = .set es ep t
  ents : es.toList = entsN w L
  tab : TabOk t (L.map (hsh w))
  once : (L.map (·.1)).Nodup
  keys : ∀ e ∈ L, IsN h e.1 e.2
  led : w.params.followText "set-order" = true ∨ t.led = true
  room : L.length * 5 < t.mask * 3
  few : L.length < 64
theorem ents_size {w : World} {L : List KA} {es : Array (Int × Value)} (h : es.toList = entsN w L) : es.size = L.length := by
  have z := congrArg List.length h
  rwa [entsN, Array.length_toList, List.length_map] at z
theorem ents_at {w : World} {L : List KA} {es : Array (Int × Value)} (h : es.toList = entsN w L) {i : Nat} {e : KA} (hi : L[i]? = some e) : es[i]? = some (hsh w e, Value.ref e.2) := by
  rw [← Array.getElem?_toList, h, entsN, List.getElem?_map, hi]
  rfl
theorem fits_of {w : World} {L : List KA} {t : SetTable} {n : Nat} (T : TabOk t (L.map (hsh w))) (hn : n = L.length) (hr : L.length ≤ t.mask) : t.fits n = true := by
  have z := T.sz
  rw [List.length_map] at z
  unfold SetTable.fits SetTable.fill
  rw [T.dm, Bool.and_eq_true, beq_iff_eq, decide_eq_true_eq]
  show t.place.size = n ∧ t.place.size + 0 ≤ t.mask
  omega
/-- the c-th step of a search for the hash h -/
abbrev stp (m : Nat) (h : Int) (c : Nat) : SetTable.Probe := nth m (runAt m (SetTable.bits h % (m + 1)) (SetTable.bits h)) c
theorem nth_dum (m : Nat) : ∀ (n : Nat) (p : SetTable.Probe), p.dummy = none → (nth m p n).dummy = none
  | 0, _, h => h
  | n + 1, p, h => nth_dum m n (adv m p) (by unfold adv; split <;> exact h)
theorem stp_on (m : Nat) (h : Int) (c q : Nat) : nth m (stp m h c) q = stp m h (c + q) := (nth_add m c _ q).symm
section
variable {P : Program} {w : World} {A : Around} {E : Value → Shared → Prop} {s : Shared} {a : Addr} {L : List KA} {es : Array (Int × Value)} {ep : Nat} {t : SetTable}
theorem SetN.fits (R : SetN w s.heap a L es ep t) : t.fits es.size = true := fits_of R.tab (ents_size R.ents) (by have := R.room; omega)
/-- the hashes as the table's search asks for them -/
abbrev hAt (es : Array (Int × Value)) : Nat → Int := fun i => (es[i]?.map (·.1)).getD 0
theorem hAt_of (h : es.toList = entsN w L) {i : Nat} {e : KA} (hi : L[i]? = some e) : hAt es i = hsh w e := by
  show (es[i]?.map (·.1)).getD 0 = _
  rw [ents_at h hi]
  rfl
/-- the search from its c-th step on: K is the first empty place of its way -/
theorem find_from (R : SetN w s.heap a L es ep t) {x : Addr} {k : NestedKey} (hx : IsN s.heap k x) (hu : A.units + 8 < cLine) {K : Nat} (kf : K < 10 * SetTable.turns t.mask) (ke : way t.mask (k.hash w) K ∉ t.place.toList)
    (kb : ∀ c, c < K → way t.mask (k.hash w) c ∈ t.place.toList) {Q : SetFound → Shared → Prop} (yes : k ∈ L.map (·.1) → Q (.there none) s) (no : k ∉ L.map (·.1) → Q (.free (way t.mask (k.hash w) K) false) s) :
    ∀ (f c : Nat) (st : Option SetTable.Probe), st.getD (t.probeStart (k.hash w)) = stp t.mask (k.hash w) c → c ≤ K → K - c < f →
      (∀ (i : Nat) (e : KA), L[i]? = some e → e.1 = k → ∃ c', c ≤ c' ∧ c' < K ∧ t.place.toList[i]? = some (way t.mask (k.hash w) c')) →
      wpAny (model P w) A (setSearchFrom a (.ref x) (k.hash w) true f st) Q E s := by
  intro f
  induction f with
  | zero => exact fun c st _ _ z => absurd z (Nat.not_lt_zero _)
  | succ f ih =>
    intro c st est hc hf where_
    obtain ⟨o, ho, hex, hd⟩ := R.here
    have gw : ¬ t.gaveWay = true := by
      unfold SetTable.gaveWay
      rw [mask_odd R.tab.mok]
      decide
    rw [setSearchFrom_succ]
    refine wpAny_bind (wpAny_setState_of ho hd R.fits ?_)
    dsimp only
    refine wp_if_neg gw ?_
    try refine wpAny_bind (wpAny_pure ?_)
    have at_ : ∀ q, (nth t.mask (stp t.mask (k.hash w) c) q).j = way t.mask (k.hash w) (c + q) := fun q => congrArg SetTable.Probe.j (stp_on _ _ c q)
    have spec := go_spec t R.tab.ris R.tab.dm (hAt es) (k.hash w) (10 * SetTable.turns t.mask) (K - c) (stp t.mask (k.hash w) c) (nth_dum _ c _ rfl) (by omega)
      (fun q hq => by rw [at_]; exact kb _ (by omega)) (by rw [at_, Nat.add_sub_cancel' hc]; exact ke)
    -- what the key is stored as has been met if it is there
    have none_left : ∀ {n : Nat}, (∀ k' i', k' < n → t.place.toList[i']? = some (nth t.mask (stp t.mask (k.hash w) c) k').j → hAt es i' ≠ k.hash w) →
        ∀ (i : Nat) (e : KA), L[i]? = some e → e.1 = k → ∀ c', c ≤ c' → c' < c + n → t.place.toList[i]? ≠ some (way t.mask (k.hash w) c') := fun {n} hno i e hi he c' h1 h2 h3 => by
      refine hno (c' - c) i (by omega) (by rw [at_, Nat.add_sub_cancel' h1]; exact h3) ?_
      rw [hAt_of R.ents hi]
      exact congrArg (NestedKey.hash w) he
    rcases spec with ⟨q, i, hq, hi, hh, hno, hpr⟩ | ⟨hno, hpr⟩
    · have hp : t.probe (hAt es) (k.hash w) (st.getD (t.probeStart (k.hash w))) = some (.candidate (way t.mask (k.hash w) (c + q)) i (stp t.mask (k.hash w) (c + (q + 1)))) := by
        rw [est, ← at_, ← stp_on]
        exact hpr
      rw [hp]
      dsimp only
      rw [at_] at hi
      have il : i < L.length := by
        have h1 := (List.getElem?_eq_some_iff.mp hi).1
        have h2 := R.tab.sz
        rw [List.length_map] at h2
        rw [Array.length_toList] at h1
        omega
      obtain ⟨e, he⟩ : ∃ e, L[i]? = some e := ⟨_, List.getElem?_eq_getElem il⟩
      have em : e ∈ L := List.mem_of_getElem? he
      have tail : wpAny (model P w) A (searchRest a (.ref x) (k.hash w) true f es t (way t.mask (k.hash w) (c + q)) i (stp t.mask (k.hash w) (c + (q + 1)))) Q E s := by
        unfold searchRest
        rw [ents_at R.ents he]
        dsimp only
        refine wpAny_bind (wpAny_holding ((nestedKind P w).eqBool hu (R.keys e em) hx (wpAny_bind (wpAny_setState_of ho hd R.fits ?_))))
        dsimp only
        by_cases same : e.1 = k
        · exact wp_if_pos (by simp [same]) (wpAny_pure (yes (List.mem_map.mpr ⟨e, em, same⟩)))
        · refine wp_if_neg (by simp [same]) ?_
          try refine wpAny_bind (wpAny_pure ?_)
          rw [sameMem]
          dsimp only
          have sl : t.slot (way t.mask (k.hash w) (c + q)) = .live i := slot_live R.tab.ris hi
          simp only [if_true, sl, ents_at R.ents he]
          refine wpAny_bind (wpAny_isSame_ref_self (wpAny_bind (wpAny_pure ?_)))
          simp only [if_true]
          refine wp_if_neg (by simp [same]) (ih (c + (q + 1)) _ rfl (by omega) (by omega) fun i0 e0 h0 k0 => ?_)
          obtain ⟨c', a1, a2, a3⟩ := where_ i0 e0 h0 k0
          refine ⟨c', ?_, a2, a3⟩
          rcases Nat.lt_trichotomy c' (c + q) with z | z | z
          · exact absurd a3 (none_left hno i0 e0 h0 k0 c' a1 z)
          · rw [z] at a3
            have s0 := slot_live R.tab.ris a3
            rw [sl] at s0
            injection s0 with s0
            rw [← s0, he] at h0
            cases h0
            exact absurd k0 same
          · omega
      by_cases hl : t.led = true
      · refine wp_if_neg (by simp [hl]) ?_
        try refine wpAny_bind (wpAny_pure ?_)
        exact tail
      · refine wp_if_pos (by simp [hl]) (wpAny_bind (not_seen hx (fun y hy => ?_) ?_))
        · obtain ⟨r, hr, er⟩ := List.mem_map.mp hy
          have r1 : r ∈ es ∧ r.1 = k.hash w := by simpa using hr
          have r2 : r ∈ es.toList := by simpa using r1.1
          rw [R.ents] at r2
          obtain ⟨e2, m2, e3⟩ := List.mem_map.mp r2
          exact ⟨e2.1, e2.2, by rw [← er, ← e3], R.keys e2 m2⟩
        · refine wp_if_neg (by decide) ?_
          try refine wpAny_bind (wpAny_pure ?_)
          exact tail
    · have hp : t.probe (hAt es) (k.hash w) (st.getD (t.probeStart (k.hash w))) = some (.empty (way t.mask (k.hash w) K) none) := by
        have z : way t.mask (k.hash w) K = (nth t.mask (stp t.mask (k.hash w) c) (K - c)).j := by rw [at_, Nat.add_sub_cancel' hc]
        rw [est, z]
        exact hpr
      rw [hp]
      dsimp only
      refine wpAny_pure (no fun hm => ?_)
      obtain ⟨e, em, ek⟩ := List.mem_map.mp hm
      obtain ⟨i, hi⟩ := List.getElem?_of_mem em
      obtain ⟨c', a1, a2, a3⟩ := where_ i e hi ek
      exact none_left hno i e hi ek c' a1 (by omega) a3
theorem find_at (R : SetN w s.heap a L es ep t) {x : Addr} {k : NestedKey} (hx : IsN s.heap k x) (hu : A.units + 8 < cLine) {Q : SetFound → Shared → Prop} (yes : k ∈ L.map (·.1) → Q (.there none) s)
    (no : ∀ K, k ∉ L.map (·.1) → way t.mask (k.hash w) K ∉ t.place.toList → (∀ c, c < K → way t.mask (k.hash w) c ∈ t.place.toList) → Q (.free (way t.mask (k.hash w) K) false) s) : wpAny (model P w) A (setSearch a (.ref x) (k.hash w) true) Q E s := by
  have room := R.room
  obtain ⟨K, kf, ke, kb⟩ := R.tab.first (by rw [List.length_map]; omega) (k.hash w)
  have few : K < 100000 := by
    have z : 10 * SetTable.turns t.mask ≤ 1420 := by
      unfold SetTable.turns
      rcases R.tab.mok with e | e | e <;> omega
    omega
  unfold setSearch
  refine find_from R hx hu kf ke kb yes (fun n => no K n ke kb) 100000 0 none rfl (Nat.zero_le _) (by omega) fun i e he hk => ?_
  have hi : (L.map (hsh w))[i]? = some (k.hash w) := by
    rw [List.getElem?_map, he, ← hk]
    rfl
  have il : i < t.place.toList.length := by
    have h1 := (List.getElem?_eq_some_iff.mp he).1
    have h2 := R.tab.sz
    rw [List.length_map] at h2
    rw [Array.length_toList]
    omega
  obtain ⟨c, hc, z⟩ := R.tab.before ke hi (List.getElem?_eq_getElem il)
  exact ⟨c, Nat.zero_le _, hc, by rw [List.getElem?_eq_getElem il, z]⟩
end
end Say

set_option Elab.async false
set_option linter.all false
set_option maxRecDepth 100000
set_option maxHeartbeats 8000000
namespace Say
open PySem PySem.Spec PyProof.Rows L2
/-! ### 3. one more is put in -/
theorem ents_perm {w : World} {L : List KA} {es : Array (Int × Value)} (he : es.toList = entsN w L) : ∀ l : List Nat, (∀ i ∈ l, i < L.length) →
    ∃ M : List KA, M = l.filterMap (fun i => L[i]?) ∧ l.filterMap (fun i => es[i]?) = entsN w M ∧ M.map (hsh w) = l.map fun i => (es.map (·.1)).getD i 0
  | [], _ => ⟨[], rfl, rfl, rfl⟩
  | i :: l, h => by
    obtain ⟨e, hi⟩ : ∃ e, L[i]? = some e := ⟨_, List.getElem?_eq_getElem (h i List.mem_cons_self)⟩
    obtain ⟨M, m1, m2, m3⟩ := ents_perm he l fun j hj => h j (List.mem_cons_of_mem _ hj)
    refine ⟨e :: M, by rw [List.filterMap_cons_some hi, m1], ?_, ?_⟩
    · rw [List.filterMap_cons_some (ents_at he hi), m2]
      rfl
    · rw [List.map_cons, List.map_cons, m3]
      congr 1
      have z : (es.map (·.1))[i]? = some (hsh w e) := by
        rw [Array.getElem?_map, ents_at he hi]
        rfl
      simp [Array.getD_eq_getD_getElem?, z]
theorem range_back {α : Type} (L : List α) : (List.range L.length).filterMap (fun i => L[i]?) = L := by
  have go : ∀ n, n ≤ L.length → (List.range n).filterMap (fun i => L[i]?) = L.take n := by
    intro n
    induction n with
    | zero => exact fun _ => rfl
    | succ n ih =>
      intro hn
      rw [List.range_succ, List.filterMap_append, ih (Nat.le_of_succ_le hn), List.take_succ, List.getElem?_eq_getElem hn, List.filterMap_cons_some (List.getElem?_eq_getElem hn)]
      rfl
  rw [go _ (Nat.le_refl _), List.take_length]
theorem tab_plain {t : SetTable} {hs : List Int} (T : TabOk t hs) (b : Bool) : TabOk { t with plain := b } hs := ⟨T.ris, T.dm, T.sz, T.mok, T.bd, T.reach⟩
section
variable {P : Program} {w : World} {A : Around} {E : Value → Shared → Prop} {s : Shared} {a : Addr} {L : List KA} {es : Array (Int × Value)} {ep : Nat} {t : SetTable}
/-- the table is laid anew, larger: what stood in it -/
theorem anew_at {o : Obj} (ho : s.heap.get? a = some o) (hex : o.ExactSet) (hd : o.data = .set es ep t) (he : es.toList = entsN w L) (T : TabOk t (L.map (hsh w))) (hfl : L.length ≤ t.mask)
    (nd : (L.map (·.1)).Nodup) (keys : ∀ e ∈ L, IsN s.heap e.1 e.2) (ld : w.params.followText "set-order" = true ∨ t.led = true) (few : L.length < 64) {wanted M : Nat}
    (hw : SetTable.sizeAbove wanted - 1 = M) (hM : MaskOk M) (hw2 : SetTable.sizeAbove wanted ≤ 128) (hn : L.length * 5 < M * 3) {Q : Unit → Shared → Prop}
    (go : ∀ h' L' es' ep' t', Heap.SameBut a s.heap h' → SetN w h' a L' es' ep' t' → L'.Perm L → Q () { s with heap := h' }) : wpAny (model P w) A (setRelay a wanted) Q E s := by
  have sz := ents_size he
  obtain ⟨t', order, e, hp, T', em, el, _, ed⟩ := relaid_ok t (hs := es.map (·.1)) (wanted := wanted) hw hM (by rw [Array.size_map, sz]; omega)
  rw [Array.size_map, sz] at hp
  obtain ⟨M2, m1, m2, m3⟩ := ents_perm he order.toList fun i hi => List.mem_range.mp (hp.mem_iff.mp hi)
  have pm : M2.Perm L := by
    have z := hp.filterMap fun i => L[i]?
    rwa [← m1, range_back] at z
  have r1 : (order.filterMap (es[·]?)).toList = entsN w M2 := by first | (rw [Array.toList_filterMap]; exact m2) | simpa using m2
  have s2 : (order.filterMap (es[·]?)).size = L.length := by rw [ents_size r1, pm.length_eq]
  rw [← m3] at T'
  rw [setRelay_eq]
  refine wpAny_bind (wpAny_setState_of ho hd (fits_of T sz hfl) ?_)
  dsimp only
  refine wp_if_neg (by rw [sizeLine_eq]; omega) ?_
  try refine wpAny_bind (wpAny_pure ?_)
  rw [e]
  dsimp only
  refine wpAny_bind (wp_if_neg (by rw [s2, sz]; simp) ?_)
  try refine wpAny_bind (wpAny_pure ?_)
  refine wpAny_pure ?_
  dsimp only
  refine wpAny_storeSet_of ho hd ?_ (by rw [s2, sizeLine_eq]; omega)
  have sb : Heap.SameBut a s.heap (s.heap.update a (Obj.putSet (order.filterMap (es[·]?)) t')) := Heap.SameBut.update ..
  exact go _ M2 _ (ep + 1) t' sb ⟨⟨_, store_at ho hd, ⟨hex.1, hex.2.1, hex.2.2⟩, rfl⟩, r1, T', (pm.map (·.1)).nodup_iff.mpr nd, fun e he => (keys e (pm.mem_iff.mp he)).beside ho hd sb, by rw [el]; exact ld,
    by rw [pm.length_eq, em]; exact hn, by rw [pm.length_eq]; exact few⟩ pm
theorem put_at (R : SetN w s.heap a L es ep t) {x : Addr} {k : NestedKey} (hx : IsN s.heap k x) (hu : A.units + 8 < cLine) (few : L.length + 1 < 64) {Q : Bool → Shared → Prop}
    (go : ∀ b h' L' es' ep' t', Heap.SameBut a s.heap h' → SetN w h' a L' es' ep' t' → (k ∈ L.map (·.1) → L' = L) → (k ∉ L.map (·.1) → L'.Perm ((k, x) :: L)) → Q b { s with heap := h' }) : wpAny (model P w) A (setAddHashed a (.ref x) (k.hash w)) Q E s := by
  obtain ⟨o, ho, hex, hd⟩ := R.here
  have sz := ents_size R.ents
  have room := R.room
  unfold setAddHashed
  refine wpAny_holding ?_
  rw [show (100000 : Nat) = 99999 + 1 from rfl, setAddHashedIn_succ]
  refine wpAny_bind (wpAny_setState_of ho hd R.fits ?_)
  dsimp only
  refine wp_if_neg (by simp [byScan, Value.scannable]) ?_
  try refine wpAny_bind (wpAny_pure ?_)
  refine wpAny_bind (find_at R hx hu (fun hm => ?_) fun K hm ke kb => ?_)
  · dsimp only
    exact wpAny_pure (go false s.heap L es ep t (Heap.SameBut.refl a s.heap) R (fun _ => rfl) fun z => absurd hm z)
  dsimp only
  refine wpAny_bind (wpAny_setState_of ho hd R.fits ?_)
  dsimp only
  obtain ⟨q1, q2, q3, q4, q5, _, _, _, q9⟩ := R.tab.put ke kb
  generalize hpt : t.put (way t.mask (k.hash w) K) = pt at q1 q3 q4 q5 q9 ⊢
  obtain ⟨t1, p⟩ := pt
  dsimp only at q1 q3 q4 q5 q9 ⊢
  subst q1
  generalize SetTable.below t.place (way t.mask (k.hash w) K) = p at q2 q3 ⊢
  have ins : (SetTable.insertAt es p (k.hash w, Value.ref x)).toList = entsN w (L.take p ++ (k, x) :: L.drop p) := by
    rw [SetTable.toList_insertAt, R.ents]
    simp only [entsN, hsh, List.map_append, List.map_cons, List.map_take, List.map_drop]
  have hin : (L.take p ++ (k, x) :: L.drop p).map (hsh w) = (L.map (hsh w)).take p ++ k.hash w :: (L.map (hsh w)).drop p := by rw [List.map_append, List.map_cons, List.map_take, List.map_drop]
  rw [← hin] at q3
  have pm := put_perm L p ((k, x) : KA)
  generalize SetTable.insertAt es p (k.hash w, Value.ref x) = es1 at ins ⊢
  generalize L.take p ++ (k, x) :: L.drop p = L1 at pm q3 ins
  have l1 : L1.length = L.length + 1 := pm.length_eq
  have z1 := ents_size ins
  have nd1 : (L1.map (·.1)).Nodup := by
    refine (pm.map (·.1)).nodup_iff.mpr ?_
    rw [List.map_cons]
    exact List.nodup_cons.mpr ⟨hm, R.once⟩
  -- behind the question whether it is hashed by value
  have rest : ∀ bv : Bool, wpAny (model P w) A (do
      storeSet a es1 (if bv = true then t1 else { t1 with plain := false })
      if (!false && (if bv = true then t1 else { t1 with plain := false }).tooFull) = true then setRelay a (SetTable.grown (es.size + 1))
      return true) Q E s := fun bv => by
    have T2 : TabOk (if bv = true then t1 else { t1 with plain := false }) (L1.map (hsh w)) := by
      cases bv
      · exact tab_plain q3 false
      · exact q3
    have m2 : (if bv = true then t1 else { t1 with plain := false }).mask = t.mask := by cases bv <;> exact q4
    have d2 : (if bv = true then t1 else { t1 with plain := false }).led = t.led := by cases bv <;> exact q5
    have f2 : (if bv = true then t1 else { t1 with plain := false }).fill = L.length + 1 := by
      rw [List.length_map] at q9
      cases bv <;> exact q9
    generalize (if bv = true then t1 else { t1 with plain := false }) = t2 at T2 m2 d2 f2 ⊢
    refine wpAny_bind (wpAny_storeSet_of ho hd ?_ (by rw [z1, l1, sizeLine_eq]; omega))
    have sb : Heap.SameBut a s.heap (s.heap.update a (Obj.putSet es1 t2)) := Heap.SameBut.update ..
    have ho1 := store_at (es' := es1) (t' := t2) ho hd
    generalize s.heap.update a (Obj.putSet es1 t2) = h1 at sb ho1 ⊢
    have keys1 : ∀ e ∈ L1, IsN h1 e.1 e.2 := fun e he => by
      rcases List.mem_cons.mp (pm.mem_iff.mp he) with z | z
      · rw [z]
        exact hx.beside ho hd sb
      · exact (R.keys e z).beside ho hd sb
    have ld1 : w.params.followText "set-order" = true ∨ t2.led = true := by rw [d2]; exact R.led
    have full : t2.tooFull = decide ((L.length + 1) * 5 ≥ t.mask * 3) := by
      unfold SetTable.tooFull
      rw [f2, m2]
    by_cases hf : t2.tooFull = true
    · first
        | (refine wpAny_bind ?_; refine wp_if_pos (by simp [hf]) ?_)
        | (refine wp_if_pos (by simp [hf]) ?_; refine wpAny_bind ?_)
      have hb : (L.length + 1) * 5 ≥ t.mask * 3 := by
        rw [full, decide_eq_true_eq] at hf
        exact hf
      rw [sz]
      have next : ∀ M, SetTable.sizeAbove (SetTable.grown (L.length + 1)) - 1 = M → MaskOk M → SetTable.sizeAbove (SetTable.grown (L.length + 1)) ≤ 128 → (L.length + 1) * 5 < M * 3 →
          wpAny (model P w) A (setRelay a (SetTable.grown (L.length + 1))) (fun _ s' => wpAny (model P w) A (pure true) Q E s') E { s with heap := h1 } := fun M g1 g2 g3 g4 => by
        refine anew_at (s := { s with heap := h1 }) ho1 ⟨hex.1, hex.2.1, hex.2.2⟩ rfl ins T2 (by rw [l1, m2]; omega) nd1 keys1 ld1 (by rw [l1]; exact few) g1 g2 g3 (by rw [l1]; exact g4) fun h2 L2 es2 ep2 t3 sb2 R2 pm2 => ?_
        exact wpAny_pure (go true h2 L2 es2 ep2 t3 (sb.trans sb2) R2 (fun z => absurd z hm) fun _ => pm2.trans pm)
      rcases R.tab.mok with e | e | e
      · have e2 : L.length = 4 := by rw [e] at hb room; omega
        exact next 31 (by rw [e2, size_20]) (.inr (.inl rfl)) (by rw [e2, size_20]; decide) (by omega)
      · have e2 : L.length = 18 := by rw [e] at hb room; omega
        exact next 127 (by rw [e2, size_76]) (.inr (.inr rfl)) (by rw [e2, size_76]; decide) (by omega)
      · exfalso
        rw [e] at hb
        omega
    · have nf : ¬ (L.length + 1) * 5 ≥ t.mask * 3 := by
        rw [full, decide_eq_true_eq] at hf
        exact hf
      first
        | refine wp_if_neg (by simp [hf]) ?_
        | (refine wpAny_bind ?_; refine wp_if_neg (by simp [hf]) ?_; refine wpAny_pure ?_)
      exact wpAny_pure (go true h1 L1 es1 (ep + 1) t2 sb ⟨⟨_, ho1, ⟨hex.1, hex.2.1, hex.2.2⟩, rfl⟩, ins, T2, nd1, keys1, ld1, by rw [l1, m2]; omega, by rw [l1]; exact few⟩ (fun z => absurd z hm) fun _ => pm)
  by_cases hp1 : t1.plain = true
  · first
      | (refine wpAny_bind ?_; refine wp_if_pos hp1 ?_; refine hx.asked.hash _ _ _ ?_)
      | refine wp_if_pos hp1 (wpAny_bind (hx.asked.hash _ _ _ ?_))
    exact rest (byVal k)
  · first
      | (refine wpAny_bind ?_; refine wp_if_neg hp1 ?_; refine wpAny_pure ?_)
      | refine wp_if_neg hp1 (wpAny_bind (wpAny_pure ?_))
    exact rest true
end
end Say

set_option Elab.async false
set_option linter.all false
set_option maxRecDepth 100000
set_option maxHeartbeats 4000000
/-! set(..) of a list or a tuple of whole numbers, as a value. -/
namespace Say
open PySem PySem.Spec PyProof.Rows L2
section
variable {P : Program} {w : World} {A : Around} {E : Value → Shared → Prop} {s : Shared}
/-- a set as it is new -/
abbrev set0 (w : World) : Obj := { cls := .type "set", dict := none, data := .set #[] 0 (.fresh 0 0 (!w.params.followText "set-order")) }
/-- what set(..) of these numbers leaves: the set, new; all that stood, stands -/
def SetLaid (w : World) (s : Shared) (ns : List Int) (s2 : Shared) : Prop := ∃ h' tk c, s2 = { s with heap := h', toks := tk } ∧
  SetR w h' s.heap.objs.size (fun j => decide (j ∈ ns)) c ∧ c ≤ ns.length ∧ ∀ b o, s.heap.get? b = some o → h'.get? b = some o
set_option maxHeartbeats 8000000 in
theorem call_set_listI {l : Addr} {items : Array Value} (ns : List Int) {Q : Value → Shared → Prop} (hh : A.handled = none) (hl : s.heap.IsList l items) (hit : IntsAre items.toList ns)
    (hb : ns.length + 1 < scanBound) (go : ∀ s2, SetLaid w s ns s2 → Q (.ref s.heap.objs.size) s2) : wpAny (model P w) A (call (.type "set") [.ref l]) Q E s := by
  have size : items.size = ns.length := by
    have q := IntsAre.length hit
    rw [Array.length_toList] at q
    exact q
  obtain ⟨c, tl, hmro⟩ := F.called_set.mro
  have m1 := F.called_set.made
  have m2 := F.called_set.sub
  refine wpAny_call (codeAny_of_tree ?_)
  show wpAny _ _ (callAny (.type "set") _) _ _ _
  refine wpAny_pure ⟨Code.quiet_builtin _ (by decide +kernel), codeAny_builtin F.entry_type_call ?_⟩
  rw [Around.under_plain (weight_type_call_type "set" [.ref l] []) rfl]
  have m3 := F.called_set.notType
  have m4 := F.called_set.canCreate
  have m5 := F.typeCall_set_1 (.ref l)
  repeat (any_goals (first
    | assumption
    | wp_step))
  refine codeAny_mono (code_set_led1 (.ref l) (E := E) (Q₁ := fun obj s₁ => obj = .ref s.heap.objs.size ∧ s₁ = { s with heap := s.heap.push (set0 w) }) ⟨rfl, rfl⟩) fun r s₁ hr => ?_
  cases r with
  | error e => exact hr
  | ok fl =>
    cases fl with
    | ret obj =>
      obtain ⟨rfl, rfl⟩ := hr
      have new : (s.heap.push (set0 w)).get? s.heap.objs.size = some (set0 w) := Heap.get?_push_size _ rfl
      have isSet : Shared.TypeIs { s with heap := s.heap.push (set0 w) } (.ref s.heap.objs.size) "set" := ⟨_, new, rfl⟩
      have i1 := F.called_set.init.lookup
      have i2 := F.called_set.init.bind (.ref s.heap.objs.size)
      repeat (any_goals (first
        | assumption
        | wp_step))
      refine codeAny_mono (codeAny_call_builtin (R := wants (fun r s₂ => r = .none ∧ SetLaid w s ns s₂) E) F.called_set.init.plain F.entry_set_init (check_set_init_1 isSet ?_)) fun r₂ s₂ hr₂ => ?_
      · obtain ⟨ol, hol, hcl, nl, hdl⟩ := hl
        obtain ⟨ocls, odict, odata, oslots⟩ := ol
        simp only at hcl hdl
        subst hcl; subst hdl
        have hol' : (s.heap.push (set0 w)).get? l = some { cls := .type "list", dict := odict, data := .seq items nl, slots := oslots } := Heap.get?_push_of_some _ hol
        have n1 := F.sub_list_set
        have n2 := F.sub_list_frozenset
        have n3 : (Value.type "list" == Value.type "dict") = false := by decide
        have hl1 : (s.heap.push (set0 w)).IsList l items := ⟨_, hol', rfl, nl, rfl⟩
        unfold Builtin.«set.__init__» noKeywords Builtin.Frozenset.updateFrom
        generalize hPI : pyIter = PI
        wp_walk
        subst hPI
        refine wpAny_pyIter_list hl1 ?_
        refine wpAny_bind (wpAny_runValue ?_)
        have lS : l < s.heap.objs.size := Heap.lt_size hol
        have h3 : A.in1.in1.in1.handled = none := by simp [hh]
        have z1 : (s.heap.push (set0 w)).objs.size = s.heap.objs.size + 1 := Heap.size_push ..
        have neI : l ≠ (s.heap.push (set0 w)).objs.size := by
          rw [z1]
          exact Nat.ne_of_lt (Nat.lt_succ_of_lt lS)
        have out : s.heap.objs.size ∉ [(s.heap.push (set0 w)).objs.size, l] := by
          rw [z1]
          simp only [List.mem_cons, List.mem_singleton, List.not_mem_nil, or_false, not_or]
          exact ⟨Nat.ne_of_lt (Nat.lt_succ_self _), Nat.ne_of_gt lS⟩
        have val : ∀ (i : Nat) (v : Value), items[i]? = some v → ∃ k t, ns[i]? = some k ∧ v = .int k t := fun i v hv => by
          have hi : i < ns.length := by
            rw [← size]
            exact (Array.getElem?_eq_some_iff.mp hv).1
          obtain ⟨t, e⟩ := PyProof.Rows.IntsAre.int_at hit i v (by rw [Array.getElem?_toList]; exact hv)
          refine ⟨ns[i], t, List.getElem?_eq_getElem hi, ?_⟩
          rw [e, List.getD_eq_getElem?_getD, List.getElem?_eq_getElem hi]
          rfl
        refine set_update_ints ((Walks.list h3 _ l neI items).toS) s.heap.objs.size
          out ns size hb val (items.size - 0) 0 _ (by omega) (Nat.zero_le _)
          ⟨⟨_, Heap.get?_push_size _ rfl, rfl, rfl⟩, (hl1.push _)⟩ ?start ?last
        case start => exact ⟨0, Nat.le_refl 0, setR_new_at (Heap.get?_push_of_some _ new)⟩
        case last =>
          intro s' c' hm hc' hS'
          obtain ⟨h', g2, d', tk', os'⟩ := s'
          have eg : g2 = s.gens := hm.gens
          have ed : d' = s.drawn := hm.drawn
          have eo : os' = s.os := hm.os
          subst eg; subst ed; subst eo
          show wpAny _ _ _ _ _ _
          refine wpAny_pure ?_
          show wpAny _ _ (ret Value.none) _ _ _
          rw [size] at hc'
          refine wpAny_pure ⟨rfl, h', tk', c', rfl, hS', hc', fun b o e => ?_⟩
          have b0 : b < s.heap.objs.size := Heap.lt_size e
          have b2 : b ≠ (s.heap.push (set0 w)).objs.size := by
            rw [z1]
            exact Nat.ne_of_lt (Nat.lt_succ_of_lt b0)
          refine hm.heap b o ?_ (Heap.get?_push_of_some _ (Heap.get?_push_of_some _ e))
          simp only [List.mem_cons, List.mem_singleton, List.not_mem_nil, or_false, not_or]
          exact ⟨Nat.ne_of_lt b0, b2⟩
      · cases r₂ with
        | error e => exact hr₂
        | ok fl₂ =>
          cases fl₂ with
          | ret r =>
            obtain ⟨rfl, L2⟩ := hr₂
            repeat (any_goals (first
              | assumption
              | wp_step))
            exact go _ L2
          | _ => exact hr₂.elim
    | _ => exact hr.elim
end
section
variable {X : Cx}
theorem ints_of_vals : ∀ {ns : List Int} {us : List Value}, Vals (ns.map V.int) us → IntsAre us ns
  | [], _, h => by
    cases h
    exact .nil
  | n :: ns, _, h => by
    cases h with
    | cons r t =>
      obtain ⟨k, rfl⟩ := r
      exact .cons n k (ints_of_vals t)
/-- set(xs), xs a list or a tuple of whole numbers -/
def rSetI (K : PySem.W.Frag) (w : World) : List V → Hp → VK → Prop := fun xs H Q => ∃ (l : Addr) (ns : List Int), xs = [.ref l] ∧ (SqL K H l (ns.map V.int) ∨ SqT K H l (ns.map V.int)) ∧ ns.length ≤ 4000 ∧
  ∀ p c, H p = none → c ≤ ns.length → Q (.ref p) (upd H p (SetO w p (fun j => decide (j ∈ ns)) c))
theorem cr_setI (hc : X.calm = true) : CallR X (.type "set") (rSetI X.K X.w) := by
  intro pins s σ H xs us Q I r h
  obtain ⟨l, ns, rfl, hq, hz, q⟩ := h
  rw [Vals.ref1 r]
  have few : ns.length + 1 < scanBound := by
    have e : scanBound = 4096 := rfl
    omega
  have fin : ∀ (h' : Heap) (tk c : Nat), SetR X.w h' s.heap.objs.size (fun j => decide (j ∈ ns)) c → c ≤ ns.length → (∀ b o, s.heap.get? b = some o → h'.get? b = some o) →
      EP X pins σ Q (.ref s.heap.objs.size) { s with heap := h', toks := tk } := fun h' tk c R c1 k =>
    ⟨.ref _, _, I.laid (t' := tk) k (Nat.le_refl _) (setO_new R), rfl, q _ c (I.hok.fresh (Nat.le_refl _)) c1⟩
  rcases hq with hq | hq
  · obtain ⟨its, rv, pl, _⟩ := I.list hq
    refine call_set_listI ns (I.ok.hd hc) pl.isList (ints_of_vals rv) few fun s2 hs => ?_
    obtain ⟨h', tk, c, rfl, R, c1, k⟩ := hs
    exact fin h' tk c R c1 k
  · obtain ⟨its, rv, pl, _⟩ := I.tuple hq
    exact call_set_tupI ns (I.ok.hd hc) pl (ints_of_vals rv) few fun h' tk c R c1 k => fin h' tk c R c1 k
end
end Say

set_option Elab.async false
set_option linter.all false
set_option maxRecDepth 100000
set_option maxHeartbeats 8000000
namespace Say
open PySem PySem.Spec PyProof.Rows L2
/-! ### 4. set(xs) -/
/-- what has come of the first i -/
structure Come (ks : List KA) (i : Nat) (L : List KA) : Prop where
  of_ : ∀ e ∈ L, e ∈ ks.take i
  all : ∀ e ∈ ks.take i, e.1 ∈ L.map (·.1)
  len : L.length ≤ i
theorem come_on {ks L L' : List KA} {i : Nat} {x : KA} (g : Come ks i L) (h : ks[i]? = some x) (c1 : x.1 ∈ L.map (·.1) → L' = L) (c2 : x.1 ∉ L.map (·.1) → L'.Perm (x :: L)) : Come ks (i + 1) L' := by
  have e1 : ks.take (i + 1) = ks.take i ++ [x] := by
    rw [List.take_succ, h]
    rfl
  have len := g.len
  by_cases c : x.1 ∈ L.map (·.1)
  · rw [c1 c]
    refine ⟨fun e he => ?_, fun e he => ?_, by omega⟩
    · rw [e1]
      exact List.mem_append_left _ (g.of_ e he)
    · rw [e1] at he
      rcases List.mem_append.mp he with z | z
      · exact g.all e z
      · rw [List.mem_singleton.mp z]
        exact c
  · have pm := c2 c
    refine ⟨fun e he => ?_, fun e he => ?_, by rw [pm.length_eq, List.length_cons]; omega⟩
    · rw [e1]
      rcases List.mem_cons.mp (pm.mem_iff.mp he) with z | z
      · exact List.mem_append_right _ (by rw [z]; exact List.mem_singleton.mpr rfl)
      · exact List.mem_append_left _ (g.of_ e z)
    · rw [(pm.map (·.1)).mem_iff, List.map_cons]
      rw [e1] at he
      rcases List.mem_append.mp he with z | z
      · exact List.mem_cons_of_mem _ (g.all e z)
      · rw [List.mem_singleton.mp z]
        exact List.mem_cons_self
section
variable {P : Program} {w : World} {A : Around} {E : Value → Shared → Prop} {s : Shared}
theorem SetN.stay {h h' : Heap} {a : Addr} {L : List KA} {es : Array (Int × Value)} {ep : Nat} {t : SetTable} (R : SetN w h a L es ep t) (ha : ∀ o, h.get? a = some o → h'.get? a = some o) (hk : ∀ e ∈ L, IsN h' e.1 e.2) : SetN w h' a L es ep t := by
  obtain ⟨o, ho, r⟩ := R.here
  exact ⟨⟨o, ha o ho, r⟩, R.ents, R.tab, R.once, hk, R.led, R.room, R.few⟩
theorem setN_new {h : Heap} {a : Addr} (ho : h.get? a = some (set0 w)) : SetN w h a [] #[] 0 (.fresh 0 0 (!w.params.followText "set-order")) where
  here := ⟨_, ho, ⟨rfl, rfl, rfl⟩, rfl⟩
  ents := rfl
  tab := ⟨.nil, rfl, rfl, .inl rfl, fun x hx => (by cases hx), fun i h j hi => (by simp at hi)⟩
  once := .nil
  keys := fun e he => (by cases he)
  led := by
    show _ ∨ (!w.params.followText "set-order") = true
    cases w.params.followText "set-order" <;> simp
  room := (by decide : 0 * 5 < 7 * 3)
  few := (by decide : 0 < 64)
/-- the loop over what is handed in -/
theorem upd_keys {I : Addr} {fp wr : List Addr} {G : Array GenState → Array GenState → Prop} {n : Nat} {Pv : Nat → Value → Prop} {St : Nat → Shared → Prop} {R : Result → Shared → Prop} (W : WalksS P w A.in1 I fp wr G n Pv St) (S : Addr) (nS : S ∉ fp)
    (ks : List KA) (hn : n = ks.length) (few : ks.length < 64) (val : ∀ i v, Pv i v → ∃ e, ks[i]? = some e ∧ v = .ref e.2) (h0 : Heap) (hk : ∀ e ∈ ks, IsN h0 e.1 e.2) (S0 : h0.get? S = none) (w0 : ∀ b ∈ wr, h0.get? b = none) (hu : A.in1.units + 8 < cLine) :
    ∀ (k i : Nat) (s : Shared), n - i = k → i ≤ n → St i s → (∀ b o, h0.get? b = some o → s.heap.get? b = some o) → (∃ L es ep t, SetN w s.heap S L es ep t ∧ Come ks i L) →
      (∀ s' L es ep t, Moved (S :: wr) G s s' → SetN w s'.heap S L es ep t → Come ks n L → (∀ b o, h0.get? b = some o → s'.heap.get? b = some o) → R (.ok (.ret .none)) s') →
      codeAny (model P w) A (.builtin "set.update.loop" ⟨[.ref S, .ref I], []⟩) R s := by
  have more : ∀ b ∈ wr, b ∈ S :: wr := fun b hb => List.mem_cons_of_mem _ hb
  have nw : S ∉ wr := fun z => nS (W.sub _ z)
  have kept : ∀ {s s' : Shared}, Moved wr G s s' → (∀ b o, h0.get? b = some o → s.heap.get? b = some o) → ∀ b o, h0.get? b = some o → s'.heap.get? b = some o := fun m kp b o e =>
    m.heap b o (fun z => by rw [w0 b z] at e; cases e) (kp b o e)
  have old : ∀ {L : List KA} {i : Nat}, Come ks i L → ∀ e ∈ L, e ∈ ks := fun g e he => List.mem_of_mem_take (g.of_ e he)
  intro k
  induction k with
  | zero =>
    intro i s hk' hi hst kp ⟨L, es, ep, t, T, g⟩ go
    have e : i = n := by omega
    subst e
    refine codeAny_builtin F.entry_set_update_loop ?_
    rw [Around.under_plainId F.plain_set_update_loop _]
    show wpAny _ A.in1 (pyNext (.ref I) >>= _) _ _ s
    refine wpAny_bind (W.done s _ _ hst fun s' m => ?_)
    show wpAny _ A.in1 (ret Value.none) _ _ s'
    have kp' := kept m kp
    exact wpAny_pure (go s' L es ep t (m.mono more) (T.stay (fun o q => m.heap S o nw q) fun e he => (hk e (old g e he)).keep kp') g kp')
  | succ k ih =>
    intro i s hk' hi hst kp ⟨L, es, ep, t, T, g⟩ go
    have lt : i < n := by omega
    refine codeAny_builtin F.entry_set_update_loop ?_
    rw [Around.under_plainId F.plain_set_update_loop _]
    show wpAny _ A.in1 (pyNext (.ref I) >>= _) _ _ s
    refine wpAny_bind (W.item i s _ _ lt hst fun v s' hP hst' m => ?_)
    obtain ⟨e, he, rfl⟩ := val i v hP
    have kp' := kept m kp
    have T' : SetN w s'.heap S L es ep t := T.stay (fun o q => m.heap S o nw q) fun e he => (hk e (old g e he)).keep kp'
    have x : IsN s'.heap e.1 e.2 := (hk e (List.mem_of_getElem? he)).keep kp'
    show wpAny _ A.in1 (holding [Value.ref e.2] (setAdd S (.ref e.2)) >>= _) _ _ s'
    refine wpAny_bind (wpAny_holding ?_)
    unfold setAdd
    refine wpAny_holding (wpAny_bind ((nestedKind P w).pyHash hu x ?_))
    have len := g.len
    refine put_at (s := { s' with toks := s'.toks + (nestedKind P w).draws e.1 }) T' x hu (by omega) fun b h' L' es' ep' t' sb T2 c1 c2 => ?_
    have g' : Come ks (i + 1) L' := come_on g he c1 c2
    have kp2 : ∀ b o, h0.get? b = some o → h'.get? b = some o := fun b o q => (sb.2 b (fun z => by rw [z, S0] at q; cases q)).trans (kp' b o q)
    refine wpAny_pure ⟨plainId_quiet F.plain_set_update_loop _, ih (i + 1) _ (by omega) lt (W.frame _ s' _ _ hst' (Nat.le_add_right _ _) fun b hb o q => ?_) kp2 ⟨L', es', ep', t', T2, g'⟩ fun s'' L2 es2 ep2 t2 m2 T3 g2 kp3 => ?_⟩
    · exact (sb.2 b fun z : b = S => nS (by rw [← z]; exact hb)).trans q
    · refine go s'' L2 es2 ep2 t2 (Moved.trans W.gtrans ((m.mono more).then_heap (Nat.le_add_right _ _) fun b o hb q => ?_) m2) T3 g2 kp3
      exact (sb.2 b fun z : b = S => hb (by rw [z]; exact List.mem_cons_self)).trans q
/-- what set(..) leaves -/
def LaidN (w : World) (s : Shared) (ks : List KA) (s2 : Shared) : Prop := ∃ h' tk L es ep t, s2 = { s with heap := h', toks := tk } ∧ SetN w h' s.heap.objs.size L es ep t ∧ Come ks ks.length L ∧ ∀ b o, s.heap.get? b = some o → h'.get? b = some o
/-- how set.__init__ goes about what is handed in -/
theorem set_ini {l : Addr} {ks : List KA} {Q : Value → Shared → Prop}
    (ini : ∀ (F' : PySem.Fin → Shared → Prop) (E' : Value → Shared → Prop), (∀ s₂, LaidN w s ks s₂ → F' (.done (.ret .none)) s₂) → wpAny (model P w) A.in1.in1 (Builtin.«set.__init__» ⟨[.ref s.heap.objs.size, .ref l], []⟩) F' E' { s with heap := s.heap.push (set0 w) })
    (go : ∀ s2, LaidN w s ks s2 → Q (.ref s.heap.objs.size) s2) : wpAny (model P w) A (call (.type "set") [.ref l]) Q E s := by
  obtain ⟨c, tl, hmro⟩ := F.called_set.mro
  have m1 := F.called_set.made
  have m2 := F.called_set.sub
  refine wpAny_call (codeAny_of_tree ?_)
  show wpAny _ _ (callAny (.type "set") _) _ _ _
  refine wpAny_pure ⟨Code.quiet_builtin _ (by decide +kernel), codeAny_builtin F.entry_type_call ?_⟩
  rw [Around.under_plain (weight_type_call_type "set" [.ref l] []) rfl]
  have m3 := F.called_set.notType
  have m4 := F.called_set.canCreate
  have m5 := F.typeCall_set_1 (.ref l)
  repeat (any_goals (first
    | assumption
    | wp_step))
  refine codeAny_mono (code_set_led1 (.ref l) (E := E) (Q₁ := fun obj s₁ => obj = .ref s.heap.objs.size ∧ s₁ = { s with heap := s.heap.push (set0 w) }) ⟨rfl, rfl⟩) fun r s₁ hr => ?_
  cases r with
  | error e => exact hr
  | ok fl =>
    cases fl with
    | ret obj =>
      obtain ⟨rfl, rfl⟩ := hr
      have new : (s.heap.push (set0 w)).get? s.heap.objs.size = some (set0 w) := Heap.get?_push_size _ rfl
      have isSet : Shared.TypeIs { s with heap := s.heap.push (set0 w) } (.ref s.heap.objs.size) "set" := ⟨_, new, rfl⟩
      have i1 := F.called_set.init.lookup
      have i2 := F.called_set.init.bind (.ref s.heap.objs.size)
      repeat (any_goals (first
        | assumption
        | wp_step))
      refine codeAny_mono (codeAny_call_builtin (R := wants (fun r s₂ => r = .none ∧ LaidN w s ks s₂) E) F.called_set.init.plain F.entry_set_init (check_set_init_1 isSet ?_)) fun r₂ s₂ hr₂ => ?_
      · exact ini _ _ fun s₂ z => ⟨rfl, z⟩
      · cases r₂ with
        | error e => exact hr₂
        | ok fl₂ =>
          cases fl₂ with
          | ret r =>
            obtain ⟨rfl, L2⟩ := hr₂
            repeat (any_goals (first
              | assumption
              | wp_step))
            exact go _ L2
          | _ => exact hr₂.elim
    | _ => exact hr.elim
theorem come_0 (ks : List KA) : Come ks 0 [] := ⟨fun e h => (by cases h), fun e h => (by simp at h), Nat.le_refl _⟩
theorem none_above {h : Heap} {b : Addr} (hb : h.objs.size ≤ b) : h.get? b = none := by
  cases q : h.get? b with
  | none => rfl
  | some o => exact absurd (Nat.lt_of_lt_of_le (Heap.lt_size q) hb) (Nat.lt_irrefl _)
theorem ini_list {l : Addr} {items : Array Value} {ks : List KA} {F' : PySem.Fin → Shared → Prop} {E' : Value → Shared → Prop} (hh : A.handled = none) (hl : s.heap.IsList l items) (hit : items.toList = ks.map fun e => Value.ref e.2) (hk : ∀ e ∈ ks, IsN s.heap e.1 e.2)
    (few : ks.length < 64) (hu : A.units + 16 < cLine) (go : ∀ s₂, LaidN w s ks s₂ → F' (.done (.ret .none)) s₂) : wpAny (model P w) A.in1.in1 (Builtin.«set.__init__» ⟨[.ref s.heap.objs.size, .ref l], []⟩) F' E' { s with heap := s.heap.push (set0 w) } := by
  have size : items.size = ks.length := by
    have q := congrArg List.length hit
    rwa [Array.length_toList, List.length_map] at q
  have new : (s.heap.push (set0 w)).get? s.heap.objs.size = some (set0 w) := Heap.get?_push_size _ rfl
  obtain ⟨ol, hol, hcl, nl, hdl⟩ := hl
  obtain ⟨ocls, odict, odata, oslots⟩ := ol
  simp only at hcl hdl
  subst hcl; subst hdl
  have hol' : (s.heap.push (set0 w)).get? l = some { cls := .type "list", dict := odict, data := .seq items nl, slots := oslots } := Heap.get?_push_of_some _ hol
  have n1 := F.sub_list_set
  have n2 := F.sub_list_frozenset
  have n3 : (Value.type "list" == Value.type "dict") = false := by decide
  have hl1 : (s.heap.push (set0 w)).IsList l items := ⟨_, hol', rfl, nl, rfl⟩
  unfold Builtin.«set.__init__» noKeywords Builtin.Frozenset.updateFrom
  generalize hPI : pyIter = PI
  wp_walk
  subst hPI
  refine wpAny_pyIter_list hl1 (wpAny_bind (wpAny_runValue ?_))
  have lS : l < s.heap.objs.size := Heap.lt_size hol
  have h3 : A.in1.in1.in1.handled = none := by simp [hh]
  have z1 : (s.heap.push (set0 w)).objs.size = s.heap.objs.size + 1 := Heap.size_push ..
  have neI : l ≠ (s.heap.push (set0 w)).objs.size := by
    rw [z1]
    exact Nat.ne_of_lt (Nat.lt_succ_of_lt lS)
  have out : s.heap.objs.size ∉ [(s.heap.push (set0 w)).objs.size, l] := by
    rw [z1]
    simp only [List.mem_cons, List.mem_singleton, List.not_mem_nil, or_false, not_or]
    exact ⟨Nat.ne_of_lt (Nat.lt_succ_self _), Nat.ne_of_gt lS⟩
  have val : ∀ (i : Nat) (v : Value), items[i]? = some v → ∃ e, ks[i]? = some e ∧ v = .ref e.2 := fun i v hv => by
    have q : items.toList[i]? = some v := by rw [Array.getElem?_toList]; exact hv
    rw [hit, List.getElem?_map] at q
    obtain ⟨e, he, z⟩ := Option.map_eq_some_iff.mp q
    exact ⟨e, he, z.symm⟩
  refine upd_keys ((Walks.list h3 _ l neI items).toS) s.heap.objs.size out ks size few val s.heap hk (none_above (Nat.le_refl _)) (fun b hb => none_above (by
    rw [List.mem_singleton.mp hb, z1]
    exact Nat.le_succ _)) (by simp only [Around.in1_units]; omega) (items.size - 0) 0 _ (by omega) (Nat.zero_le _) ⟨⟨_, Heap.get?_push_size _ rfl, rfl, rfl⟩, (hl1.push _)⟩
    (fun b o e => Heap.get?_push_of_some _ (Heap.get?_push_of_some _ e)) ⟨[], #[], 0, _, setN_new (Heap.get?_push_of_some _ new), come_0 ks⟩ fun s' L es ep t m T g kp => ?_
  obtain ⟨h', g2, d', tk', os'⟩ := s'
  obtain rfl : g2 = s.gens := m.gens
  obtain rfl : d' = s.drawn := m.drawn
  obtain rfl : os' = s.os := m.os
  show wpAny _ _ _ _ _ _
  refine wpAny_pure ?_
  show wpAny _ _ (ret Value.none) _ _ _
  rw [size] at g
  exact wpAny_pure (go _ ⟨h', tk', L, es, ep, t, rfl, T, g, kp⟩)
theorem ini_tuple {l : Addr} {items : Array Value} {ks : List KA} {F' : PySem.Fin → Shared → Prop} {E' : Value → Shared → Prop} (hh : A.handled = none) (hl : s.heap.IsTuple l items) (hit : items.toList = ks.map fun e => Value.ref e.2) (hk : ∀ e ∈ ks, IsN s.heap e.1 e.2)
    (few : ks.length < 64) (hu : A.units + 16 < cLine) (go : ∀ s₂, LaidN w s ks s₂ → F' (.done (.ret .none)) s₂) : wpAny (model P w) A.in1.in1 (Builtin.«set.__init__» ⟨[.ref s.heap.objs.size, .ref l], []⟩) F' E' { s with heap := s.heap.push (set0 w) } := by
  have size : items.size = ks.length := by
    have q := congrArg List.length hit
    rwa [Array.length_toList, List.length_map] at q
  have new : (s.heap.push (set0 w)).get? s.heap.objs.size = some (set0 w) := Heap.get?_push_size _ rfl
  obtain ⟨ol, hol, hcl, nl, hdl⟩ := hl
  obtain ⟨ocls, odict, odata, oslots⟩ := ol
  simp only at hcl hdl
  subst hcl; subst hdl
  have hol' : (s.heap.push (set0 w)).get? l = some { cls := .type "tuple", dict := odict, data := .seq items nl, slots := oslots } := Heap.get?_push_of_some _ hol
  have n1 := F.sub_tuple_set
  have n2 := F.sub_tuple_frozenset
  have n3 : (Value.type "tuple" == Value.type "dict") = false := by decide
  have hl1 : (s.heap.push (set0 w)).IsTuple l items := ⟨_, hol', rfl, nl, rfl⟩
  unfold Builtin.«set.__init__» noKeywords Builtin.Frozenset.updateFrom
  generalize hPI : pyIter = PI
  wp_walk
  subst hPI
  refine wpAny_pyIter_tuple hl1 (wpAny_bind (wpAny_runValue ?_))
  have lS : l < s.heap.objs.size := Heap.lt_size hol
  have h3 : A.in1.in1.in1.handled = none := by simp [hh]
  have z1 : (s.heap.push (set0 w)).objs.size = s.heap.objs.size + 1 := Heap.size_push ..
  have neI : l ≠ (s.heap.push (set0 w)).objs.size := by
    rw [z1]
    exact Nat.ne_of_lt (Nat.lt_succ_of_lt lS)
  have out : s.heap.objs.size ∉ [(s.heap.push (set0 w)).objs.size, l] := by
    rw [z1]
    simp only [List.mem_cons, List.mem_singleton, List.not_mem_nil, or_false, not_or]
    exact ⟨Nat.ne_of_lt (Nat.lt_succ_self _), Nat.ne_of_gt lS⟩
  have val : ∀ (i : Nat) (v : Value), items[i]? = some v → ∃ e, ks[i]? = some e ∧ v = .ref e.2 := fun i v hv => by
    have q : items.toList[i]? = some v := by rw [Array.getElem?_toList]; exact hv
    rw [hit, List.getElem?_map] at q
    obtain ⟨e, he, z⟩ := Option.map_eq_some_iff.mp q
    exact ⟨e, he, z.symm⟩
  refine upd_keys ((Walks.tuple h3 _ l neI items).toS) s.heap.objs.size out ks size few val s.heap hk (none_above (Nat.le_refl _)) (fun b hb => none_above (by
    rw [List.mem_singleton.mp hb, z1]
    exact Nat.le_succ _)) (by simp only [Around.in1_units]; omega) (items.size - 0) 0 _ (by omega) (Nat.zero_le _) ⟨⟨_, Heap.get?_push_size _ rfl, rfl, rfl⟩, (hl1.push _)⟩
    (fun b o e => Heap.get?_push_of_some _ (Heap.get?_push_of_some _ e)) ⟨[], #[], 0, _, setN_new (Heap.get?_push_of_some _ new), come_0 ks⟩ fun s' L es ep t m T g kp => ?_
  obtain ⟨h', g2, d', tk', os'⟩ := s'
  obtain rfl : g2 = s.gens := m.gens
  obtain rfl : d' = s.drawn := m.drawn
  obtain rfl : os' = s.os := m.os
  show wpAny _ _ _ _ _ _
  refine wpAny_pure ?_
  show wpAny _ _ (ret Value.none) _ _ _
  rw [size] at g
  exact wpAny_pure (go _ ⟨h', tk', L, es, ep, t, rfl, T, g, kp⟩)
theorem set_of_list {l : Addr} {items : Array Value} {ks : List KA} {Q : Value → Shared → Prop} (hh : A.handled = none) (hl : s.heap.IsList l items) (hit : items.toList = ks.map fun e => Value.ref e.2) (hk : ∀ e ∈ ks, IsN s.heap e.1 e.2)
    (few : ks.length < 64) (hu : A.units + 16 < cLine) (go : ∀ s2, LaidN w s ks s2 → Q (.ref s.heap.objs.size) s2) : wpAny (model P w) A (call (.type "set") [.ref l]) Q E s := set_ini (fun _ _ z => ini_list hh hl hit hk few hu z) go
theorem set_of_tuple {l : Addr} {items : Array Value} {ks : List KA} {Q : Value → Shared → Prop} (hh : A.handled = none) (hl : s.heap.IsTuple l items) (hit : items.toList = ks.map fun e => Value.ref e.2) (hk : ∀ e ∈ ks, IsN s.heap e.1 e.2)
    (few : ks.length < 64) (hu : A.units + 16 < cLine) (go : ∀ s2, LaidN w s ks s2 → Q (.ref s.heap.objs.size) s2) : wpAny (model P w) A (call (.type "set") [.ref l]) Q E s := set_ini (fun _ _ z => ini_tuple hh hl hit hk few hu z) go
end
end Say

set_option Elab.async false
set_option linter.all false
set_option maxRecDepth 100000
set_option maxHeartbeats 8000000
namespace Say
open PySem PySem.Spec PyProof.Rows L2
open PySem.W (dataLt dataLe alike alikeAll keyToks keyToksAll AllAlike Sortable EachIs)
/-! ### 5. the order of data -/
theorem lt_irr (x : PyData) : dataLt x x = false := (listOrd itemOrd).irrefl _
theorem lt_tr {x y z : PyData} (h : dataLt x y = true) (k : dataLt y z = true) : dataLt x z = true := (listOrd itemOrd).trans _ _ _ h k
mutual
theorem eqv_key : ∀ x y : NestedKey, PyData.eqv x.data y.data = NestedKey.beq x y
  | .none, .none => rfl
  | .none, .num _ => rfl
  | .none, .text _ => rfl
  | .none, .tup _ => rfl
  | .num _, .none => rfl
  | .num a, .num b => by
    show (a == b) = decide (a = b)
    by_cases h : a = b <;> simp [h]
  | .num _, .text _ => rfl
  | .num _, .tup _ => rfl
  | .text _, .none => rfl
  | .text _, .num _ => rfl
  | .text a, .text b => by
    show (a == b) = decide (a = b)
    by_cases h : a = b <;> simp [h]
  | .text _, .tup _ => rfl
  | .tup _, .none => rfl
  | .tup _, .num _ => rfl
  | .tup _, .text _ => rfl
  | .tup a, .tup b => by
    show PyData.eqvAll (NestedKey.datas a) (NestedKey.datas b) = NestedKey.beqAll a b
    exact eqv_keys a b
theorem eqv_keys : ∀ xs ys : List NestedKey, PyData.eqvAll (NestedKey.datas xs) (NestedKey.datas ys) = NestedKey.beqAll xs ys
  | [], [] => rfl
  | [], _ :: _ => rfl
  | _ :: _, [] => rfl
  | x :: xs, y :: ys => by
    show (PyData.eqv x.data y.data && PyData.eqvAll (NestedKey.datas xs) (NestedKey.datas ys)) = (NestedKey.beq x y && NestedKey.beqAll xs ys)
    rw [eqv_key x y, eqv_keys xs ys]
end
/-- two that can be compared, and neither is less: the same -/
theorem key_tri {x y : NestedKey} (al : alike x.data y.data = true) (h1 : dataLt x.data y.data = false) (h2 : dataLt y.data x.data = false) : x = y := by
  have e : keyToks x.data = keyToks y.data := (listOrd itemOrd).total _ _ h1 h2
  by_cases c : PyData.eqv x.data y.data = true
  · rw [eqv_key] at c
    exact NestedKey.eq_of_beq _ _ c
  · exfalso
    have z := (PySem.W.toks_eqv x.data y.data al).2 (Bool.eq_false_iff.mpr c) [.inl 0] [.inl 1]
    rw [← e, PySem.W.lex_pre] at z
    have z1 : PyProof.Rows.lexLt itemOrd (keyToks x.data) (keyToks x.data) = false := lt_irr x.data
    rw [z1] at z
    have z2 : PyProof.Rows.lexLt itemOrd [Sum.inl (0 : Int)] [Sum.inl 1] = true := rfl
    rw [z2] at z
    cases z
section
variable {β : Type} (enc : β → PyData)
/-- strictly ascending -/
def Asc (l : List β) : Prop := l.Pairwise fun a b => dataLt (enc a) (enc b) = true
variable {enc}
theorem asc_eq : ∀ {l m : List β}, Asc enc l → Asc enc m → (∀ b, b ∈ l ↔ b ∈ m) → l = m
  | [], [], _, _, _ => rfl
  | [], y :: m, _, _, h => by
    have := (h y).mpr List.mem_cons_self
    cases this
  | x :: l, [], _, _, h => by
    have := (h x).mp List.mem_cons_self
    cases this
  | x :: l, y :: m, h1, h2, h => by
    obtain ⟨a1, a2⟩ := List.pairwise_cons.mp h1
    obtain ⟨b1, b2⟩ := List.pairwise_cons.mp h2
    have no : ∀ {u v : β}, dataLt (enc u) (enc v) = true → dataLt (enc v) (enc u) = true → False := fun p q => by
      have := lt_tr p q
      rw [lt_irr] at this
      cases this
    have irr : ∀ {u : β}, dataLt (enc u) (enc u) = true → False := fun p => by
      rw [lt_irr] at p
      cases p
    have e : x = y := by
      rcases List.mem_cons.mp ((h x).mp List.mem_cons_self) with p | p
      · exact p
      · rcases List.mem_cons.mp ((h y).mpr List.mem_cons_self) with q | q
        · exact q.symm
        · exact (no (a1 y q) (b1 x p)).elim
    subst e
    congr 1
    refine asc_eq a2 b2 fun b => ⟨fun p => ?_, fun p => ?_⟩
    · rcases List.mem_cons.mp ((h b).mp (List.mem_cons_of_mem _ p)) with q | q
      · subst q
        exact (irr (a1 b p)).elim
      · exact q
    · rcases List.mem_cons.mp ((h b).mpr (List.mem_cons_of_mem _ p)) with q | q
      · subst q
        exact (irr (b1 b p)).elim
      · exact q
theorem Asc.nodup {l : List β} (h : Asc enc l) : l.Nodup := List.Pairwise.imp (fun {a b} p e => by
  subst e
  rw [lt_irr] at p
  cases p) h
open Classical in
/-- the ascending list of those that p is true of, each once -/
noncomputable def ordP (enc : β → PyData) (p : β → Prop) : List β := if h : ∃ ms, Asc enc ms ∧ ∀ b, b ∈ ms ↔ p b then Classical.choose h else []
noncomputable abbrev ordB (enc : β → PyData) (bs : List β) : List β := ordP enc fun b => b ∈ bs
theorem ordB_of {bs ms : List β} (h : Asc enc ms) (m : ∀ b, b ∈ ms ↔ b ∈ bs) : ordB enc bs = ms := by
  have ex : ∃ ms, Asc enc ms ∧ ∀ b, b ∈ ms ↔ b ∈ bs := ⟨ms, h, m⟩
  unfold ordB ordP
  rw [dif_pos ex]
  obtain ⟨h1, h2⟩ := Classical.choose_spec ex
  exact asc_eq h1 h fun b => (h2 b).trans (m b).symm
theorem ordB_congr {as bs : List β} (h : ∀ b, b ∈ as ↔ b ∈ bs) : ordB enc as = ordB enc bs := congrArg (ordP enc) (funext fun b => propext (h b))
open Classical in
theorem few_of_sub : ∀ {l m : List β}, l.Nodup → (∀ x ∈ l, x ∈ m) → l.length ≤ m.length
  | [], _, _, _ => Nat.zero_le _
  | x :: l, m, hn, hs => by
    obtain ⟨h1, h2⟩ := List.nodup_cons.mp hn
    have xm : x ∈ m := hs x List.mem_cons_self
    have ih := few_of_sub (l := l) (m := m.erase x) h2 fun y hy => (List.mem_erase_of_ne (fun e : y = x => h1 (by rw [← e]; exact hy))).mpr (hs y (List.mem_cons_of_mem _ hy))
    have e := List.length_erase_of_mem xm
    have p := List.length_pos_of_mem xm
    rw [List.length_cons]
    omega
end
/-- what can be sorted as nested keys -/
structure Ranked {β : Type} (key : β → NestedKey) (bs : List β) : Prop where
  inj : ∀ a ∈ bs, ∀ b ∈ bs, key a = key b → a = b
  deep : ∀ a ∈ bs, (key a).depth ≤ 8
  alk : ∀ a ∈ bs, ∀ b ∈ bs, alike (key a).data (key b).data = true
  tup : ∀ a ∈ bs, ∃ k ks, key a = .tup (k :: ks)
theorem Ranked.sub {β : Type} {key : β → NestedKey} {as bs : List β} (h : Ranked key bs) (s : ∀ a ∈ as, a ∈ bs) : Ranked key as :=
  ⟨fun a ha b hb => h.inj a (s a ha) b (s b hb), fun a ha => h.deep a (s a ha), fun a ha b hb => h.alk a (s a ha) b (s b hb), fun a ha => h.tup a (s a ha)⟩
/-- sorted of unlike ones ascends strictly -/
theorem asc_sort {β : Type} {key : β → NestedKey} {bs : List β} (R : Ranked key bs) (nd : bs.Nodup) {ms : List β} (pm : ms.Perm bs) (pw : ms.Pairwise fun a b => dataLt (key b).data (key a).data = false) : Asc (fun b => (key b).data) ms := by
  have nm : ms.Nodup := pm.nodup_iff.mpr nd
  refine (List.Pairwise.imp_of_mem (fun {a b} ha hb (h : dataLt (key b).data (key a).data = false ∧ a ≠ b) => ?_) (pw.and nm))
  have a1 := pm.mem_iff.mp ha
  have b1 := pm.mem_iff.mp hb
  cases c : dataLt (key a).data (key b).data with
  | true => rfl
  | false => exact absurd (R.inj a a1 b b1 (key_tri (R.alk a a1 b b1) c h.1)) h.2
theorem ordB_is {β : Type} {key : β → NestedKey} {bs : List β} (R : Ranked key bs) : Asc (fun b => (key b).data) (ordB (fun b => (key b).data) bs) ∧ ∀ b, b ∈ ordB (fun b => (key b).data) bs ↔ b ∈ bs := by
  have ex : ∃ ns : List β, ns.Nodup ∧ ∀ b, b ∈ ns ↔ b ∈ bs := by
    clear R
    induction bs with
    | nil => exact ⟨[], .nil, fun _ => Iff.rfl⟩
    | cons x bs ih =>
      obtain ⟨ns, h1, h2⟩ := ih
      by_cases c : x ∈ ns
      · refine ⟨ns, h1, fun b => (h2 b).trans ⟨fun p => List.mem_cons_of_mem _ p, fun p => ?_⟩⟩
        rcases List.mem_cons.mp p with q | q
        · rw [q]
          exact (h2 x).mp c
        · exact q
      · refine ⟨x :: ns, List.nodup_cons.mpr ⟨c, h1⟩, fun b => ?_⟩
        rw [List.mem_cons, List.mem_cons, h2 b]
  obtain ⟨ns, h1, h2⟩ := ex
  have T := PySem.W.sortLe_total (listOrd itemOrd) false fun b : β => keyToks (key b).data
  have pm : (ns.mergeSort (PySem.W.sortLe (listOrd itemOrd) false fun b : β => keyToks (key b).data)).Perm ns := List.mergeSort_perm _ _
  have pw := PySem.W.sort_pairwise T ns
  have A := asc_sort (R.sub fun a ha => (h2 a).mp ha) h1 pm (pw.imp fun {a b} h => by
    have h' : (!dataLt (key b).data (key a).data) = true := h
    simpa using h')
  have m : ∀ b, b ∈ ns.mergeSort (PySem.W.sortLe (listOrd itemOrd) false fun b : β => keyToks (key b).data) ↔ b ∈ bs := fun b => pm.mem_iff.trans (h2 b)
  have e := ordB_of A m
  rw [e]
  exact ⟨A, m⟩
theorem Ranked.mem {β : Type} {key : β → NestedKey} {bs : List β} (R : Ranked key bs) {b : β} : b ∈ ordB (fun b => (key b).data) bs ↔ b ∈ bs := (ordB_is R).2 b
theorem ordB_len {β : Type} {key : β → NestedKey} {bs : List β} (R : Ranked key bs) : (ordB (fun b => (key b).data) bs).length ≤ bs.length := by
  have h := ordB_is R
  exact few_of_sub h.1.nodup fun b hb => (h.2 b).mp hb
end Say

set_option Elab.async false
set_option linter.all false
set_option maxRecDepth 100000
set_option maxHeartbeats 8000000
namespace Say
open PySem PySem.Spec PyProof.Rows L2
open PySem.W (dataLt dataLe alike alikeAll keyToks keyToksAll AllAlike Sortable EachIs)
/-! ### 6. sorted(set) -/
mutual
theorem flat_reads {h : Heap} : ∀ (k : NestedKey) (v : Value) (as : List Addr), Reads h v k.data as → as = []
  | .none, _, _, r => by cases r; rfl
  | .num _, _, _, r => by cases r; rfl
  | .text _, _, _, r => by cases r; rfl
  | .tup ks, _, _, r => by
    cases r with
    | tuple _ _ _ h => exact flat_readsAll ks _ _ h
theorem flat_readsAll {h : Heap} : ∀ (ks : List NestedKey) (vs : List Value) (as : List Addr), ReadsAll h vs (NestedKey.datas ks) as → as = []
  | [], _, _, r => by cases r; rfl
  | k :: ks, _, _, r => by
    cases r with
    | cons h1 h2 => rw [flat_reads k _ _ h1, flat_readsAll ks _ _ h2]; rfl
end
mutual
theorem key_dep : ∀ k : NestedKey, k.data.depth = k.depth
  | .none => rfl
  | .num _ => rfl
  | .text _ => rfl
  | .tup ks => by
    show PyData.depthAll (NestedKey.datas ks) + 1 = NestedKey.depthAll ks + 1
    rw [keys_dep ks]
theorem keys_dep : ∀ ks : List NestedKey, PyData.depthAll (NestedKey.datas ks) = NestedKey.depthAll ks
  | [] => rfl
  | k :: ks => by
    show max k.data.depth (PyData.depthAll (NestedKey.datas ks)) = max k.depth (NestedKey.depthAll ks)
    rw [key_dep k, keys_dep ks]
end
theorem perm_back {α γ : Type} {f : α → γ} {vs us : List γ} (p : vs.Perm us) : ∀ L : List α, us = L.map f → ∃ M : List α, M.Perm L ∧ vs = M.map f := by
  induction p with
  | nil =>
    intro L e
    exact ⟨L, .refl _, e⟩
  | cons x _ ih =>
    intro L e
    cases L with
    | nil => cases e
    | cons a L =>
      injection e with e1 e2
      obtain ⟨M, m1, m2⟩ := ih L e2
      exact ⟨a :: M, m1.cons a, by rw [List.map_cons, e1, m2]⟩
  | swap x y l =>
    intro L e
    cases L with
    | nil => cases e
    | cons a L =>
      cases L with
      | nil => cases e
      | cons b L =>
        injection e with e1 e2
        injection e2 with e2 e3
        exact ⟨b :: a :: L, .swap a b L, by rw [List.map_cons, List.map_cons, e1, e2, e3]⟩
  | trans _ _ ih1 ih2 =>
    intro L e
    obtain ⟨M, m1, m2⟩ := ih2 L e
    obtain ⟨N, n1, n2⟩ := ih1 M m2
    exact ⟨N, n1.trans m1, n2⟩
theorem each_map_eq {α γ : Type} {f : α → γ} : ∀ {us : List γ} {L : List α}, EachIs (fun u e => u = f e) us L → us = L.map f
  | _, _, .nil => rfl
  | _, _, .cons h t => by rw [List.map_cons, ← h, ← each_map_eq t]
theorem map_each {α γ : Type} {f : α → γ} {R : γ → α → Prop} : ∀ {L : List α}, (∀ e ∈ L, R (f e) e) → EachIs R (L.map f) L
  | [], _ => .nil
  | a :: L, h => .cons (h a List.mem_cons_self) (map_each fun e he => h e (List.mem_cons_of_mem _ he))
section
variable {P : Program} {w : World} {A : Around} {E : Value → Shared → Prop} {s : Shared} {a : Addr} {L : List KA} {es : Array (Int × Value)} {ep : Nat} {t : SetTable}
theorem sorted_setN {Q : Value → Shared → Prop} (R : SetN w s.heap a L es ep t) (hh : A.handled = none) (rd : ∀ e ∈ L, ∃ as, Reads s.heap (.ref e.2) e.1.data as) (al : ∀ e ∈ L, ∀ e' ∈ L, alike e.1.data e'.1.data = true)
    (so : ∀ e ∈ L, ∃ k ks, e.1 = .tup (k :: ks)) (dp : ∀ e ∈ L, e.1.depth ≤ 8) (hu : A.units + 32 < cLine)
    (go : ∀ s' p (out : Array Value) (c : Nat) (M : List KA), (∀ b o, s.heap.get? b = some o → s'.heap.get? b = some o) → s'.gens = s.gens → s'.os = s.os → s.heap.objs.size ≤ p → s'.heap.get? p = some (seqObj "list" out c) →
      out.toList = M.map (fun e => Value.ref e.2) → M.Perm L → M.Pairwise (fun x y => dataLt y.1.data x.1.data = false) → Q (.ref p) s') : wpAny (model P w) A (call (.builtin "sorted") [.ref a]) Q E s := by
  obtain ⟨o, ho, hex, hd⟩ := R.here
  have sz := ents_size R.ents
  have few := R.few
  refine Calls.call_function_entry kind_sorted plain_sorted entry_sorted (args_sorted1 _) ?_
  unfold Builtin.«sorted»
  refine wpAny_bind (m := checkCount "sorted" 1 1 _) (wpAny_pure (wpAny_bind ?_))
  refine collect_set (A := A.in1) hh ⟨o, ho, hex.1, hd⟩ R.fits (by unfold scanBound; omega) R.tab.ris R.led fun s1 vs k1 hz g1 o1 pm => ?_
  have vals : es.toList.map (·.2) = L.map fun e => Value.ref e.2 := by
    rw [R.ents, entsN, List.map_map]
    rfl
  obtain ⟨M, m1, rfl⟩ := perm_back pm L vals
  have len : (M.map fun e : KA => Value.ref e.2).length = L.length := by rw [List.length_map, m1.length_eq]
  refine wpAny_bind (wpAny_newList ?_ (by rw [sizeLine_eq]; omega))
  have hoL : (s1.heap.push (seqObj "list" (M.map fun e : KA => Value.ref e.2).toArray 0)).get? s1.heap.objs.size = some (seqObj "list" (M.map fun e : KA => Value.ref e.2).toArray 0) := Heap.get?_push_size _ rfl
  have mm : ∀ e ∈ M, e ∈ L := fun e he => m1.mem_iff.mp he
  refine wpAny_bind (wpAny_holding (PySem.W.list_sort_data (s := { s1 with heap := s1.heap.push (seqObj "list" (M.map fun e : KA => Value.ref e.2).toArray 0) }) (R := fun v e => v = Value.ref e.2) (bs := M) (enc := fun e : KA => e.1.data) hoL
    (map_each fun _ _ => rfl) (map_each fun e he => ?_) ?_ (.inl ?_) (by rw [m1.length_eq, sizeLine_eq]; omega) (fun e he => ?_) fun out h1 h2 => ?_))
  · obtain ⟨as, r⟩ := rd e (mm e he)
    refine ⟨as, PyProof.Rows.Reads.keeps (fun b u q => Heap.get?_push_of_some _ (k1 b u q)) r, ?_⟩
    rw [flat_reads _ _ _ r]
    exact fun z => nomatch z
  · intro d hd d' hd'
    obtain ⟨e, he, rfl⟩ := List.mem_map.mp hd
    obtain ⟨e', he', rfl⟩ := List.mem_map.mp hd'
    exact al e (mm e he) e' (mm e' he')
  · intro d hd
    obtain ⟨e, he, rfl⟩ := List.mem_map.mp hd
    obtain ⟨k, ks, z⟩ := so e (mm e he)
    exact ⟨k.data, NestedKey.datas ks, by rw [z]; rfl⟩
  · have z := dp e (mm e he)
    have y : e.1.data.depth = e.1.depth := key_dep e.1
    simp only [Around.in1_units]
    omega
  · have ho2 := each_map_eq h2
    obtain ⟨c, hc⟩ := sortedHeap_at (vs := M.map fun e : KA => Value.ref e.2) (out := out.toArray) hoL
    have T := PySem.W.sortLe_total (listOrd itemOrd) false fun e : KA => keyToks e.1.data
    refine wpAny_pure ⟨_, rfl, go _ s1.heap.objs.size out.toArray c (M.mergeSort (dataLe false fun e : KA => e.1.data)) (fun b u e => ?_) g1 o1 hz hc (by rw [List.toList_toArray]; exact ho2) ((List.mergeSort_perm _ _).trans m1) ?_⟩
    · have q := k1 b u e
      have lt := Heap.lt_size q
      show (sortedHeap (s1.heap.push (seqObj "list" (M.map fun e : KA => Value.ref e.2).toArray 0)) s1.heap.objs.size (M.map fun e : KA => Value.ref e.2) out.toArray).get? b = some u
      rw [sortedHeap_old (Nat.ne_of_lt lt) (by rw [size_push']; exact Nat.lt_succ_of_lt lt)]
      exact Heap.get?_push_of_some _ q
    · refine (PySem.W.sort_pairwise T M).imp fun {x y} h => ?_
      have h' : (!dataLt y.1.data x.1.data) = true := h
      simpa using h'
end
end Say

set_option Elab.async false
set_option linter.all false
set_option maxRecDepth 100000
set_option maxHeartbeats 8000000
namespace Say
open PySem PySem.Spec PyProof.Rows L2
open PySem.W (dataLt dataLe alike alikeAll keyToks keyToksAll AllAlike Sortable EachIs)
/-! ### 7. as rules: set(xs), sorted(set), sorted(xs), of nested tuples -/
/-- the set at a, without the tuples that are in it -/
def SetNB (w : World) (h : Heap) (a : Addr) (L : List KA) : Prop := ∃ (es : Array (Int × Value)) (ep : Nat) (t : SetTable), (∃ o, h.get? a = some o ∧ o.ExactSet ∧ o.data = .set es ep t) ∧ es.toList = entsN w L ∧ TabOk t (L.map (hsh w)) ∧ (L.map (·.1)).Nodup ∧
  (w.params.followText "set-order" = true ∨ t.led = true) ∧ L.length * 5 < t.mask * 3 ∧ L.length < 64
def SetNO (w : World) (a : Addr) (L : List KA) : HO := .ext fun h => SetNB w h a L
theorem setNO_ok {P : Program} {w : World} {H : Hp} {h : Heap} {a : Addr} {L : List KA} {es : Array (Int × Value)} {ep : Nat} {t : SetTable} (R : SetN w h a L es ep t) : ObjOk P w H h a (SetNO w a L) := by
  obtain ⟨o, ho, r⟩ := id R.here
  refine ⟨⟨es, ep, t, R.here, R.ents, R.tab, R.once, R.led, R.room, R.few⟩, ⟨o, ho⟩, fun h1 h2 p k => ?_⟩
  obtain ⟨es', ep', t', ⟨o', ho', r'⟩, q'⟩ := p
  exact ⟨es', ep', t', ⟨o', k o' ho', r'⟩, q'⟩
theorem refs_vals : ∀ {ks : List KA} {us : List Value}, Vals (ks.map fun e => V.ref e.2) us → us = ks.map fun e => Value.ref e.2
  | [], _, .nil => rfl
  | e :: ks, _, .cons r t => by
    cases r
    rw [refs_vals t]
    rfl
theorem vals_refs : ∀ ks : List KA, Vals (ks.map fun e => V.ref e.2) (ks.map fun e => Value.ref e.2)
  | [] => .nil
  | e :: ks => .cons rfl (vals_refs ks)
section
variable {X : Cx}
theorem isN_of {pins : List (Addr × Obj)} {σ : L2.St} {H : Hp} {s : Shared} {e : KA} (I : Inv X pins σ H s) (h : Dp X.K H (.ref e.2) e.1.data) (d : e.1.depth ≤ 8) : IsN s.heap e.1 e.2 := ⟨nk_is I e.1 _ _ h rfl, d⟩
def rSetNk (K : PySem.W.Frag) (w : World) : List V → Hp → VK → Prop := fun xs H Q => ∃ (l : Addr) (ks : List KA), xs = [.ref l] ∧ Sq K H l (ks.map fun e => .ref e.2) ∧ (∀ e ∈ ks, Dp K H (.ref e.2) e.1.data ∧ e.1.depth ≤ 8) ∧ ks.length < 64 ∧
  ∀ p L, H p = none → (∀ e ∈ L, e ∈ ks) → (∀ e ∈ ks, e.1 ∈ L.map (·.1)) → (L.map (·.1)).Nodup → Q (.ref p) (upd H p (SetNO w p L))
theorem cr_setN (hc : X.calm = true) (hu : X.A.units + 64 < cLine) : CallR X (.type "set") (rSetNk X.K X.w) := by
  intro pins s σ H xs us Q I r h
  obtain ⟨l, ks, rfl, hq, hk, few, q⟩ := h
  rw [Vals.ref1 r]
  have keys : ∀ e ∈ ks, IsN s.heap e.1 e.2 := fun e he => isN_of I (hk e he).1 (hk e he).2
  have fin : ∀ s2, LaidN X.w s ks s2 → EP X pins σ Q (.ref s.heap.objs.size) s2 := fun s2 z => by
    obtain ⟨h', tk, L, es, ep, t, rfl, R, g, k⟩ := z
    exact ⟨.ref _, _, I.laid (t' := tk) k (Nat.le_refl _) (setNO_ok R), rfl, q _ L (I.hok.fresh (Nat.le_refl _)) (fun e he => List.mem_of_mem_take (g.of_ e he)) (fun e he => g.all e (by rw [List.take_length]; exact he)) R.once⟩
  rcases hq with hq | hq
  · obtain ⟨its, rv, pl, _⟩ := I.list hq
    exact set_of_list (I.ok.hd hc) pl.isList (by rw [List.toList_toArray]; exact refs_vals rv) keys few (by omega) fin
  · obtain ⟨its, rv, pl, _⟩ := I.tuple hq
    exact set_of_tuple (I.ok.hd hc) pl (by rw [List.toList_toArray]; exact refs_vals rv) keys few (by omega) fin
def rSortedN (K : PySem.W.Frag) (w : World) : List V → Hp → VK → Prop := fun xs H Q => ∃ (a : Addr) (L : List KA), xs = [.ref a] ∧ H a = some (SetNO w a L) ∧ (∀ e ∈ L, Dp K H (.ref e.2) e.1.data ∧ e.1.depth ≤ 8 ∧ ∃ k ks, e.1 = .tup (k :: ks)) ∧ (∀ e ∈ L, ∀ e' ∈ L, alike e.1.data e'.1.data = true) ∧
  ∀ (M : List KA) p, H p = none → M.Perm L → M.Pairwise (fun x y => dataLt y.1.data x.1.data = false) → Q (.ref p) (upd H p (.lst (M.map fun e => .ref e.2)))
theorem cr_sortedN (hc : X.calm = true) (hu : X.A.units + 64 < cLine) : CallR X (.builtin "sorted") (rSortedN X.K X.w) := by
  intro pins s σ H xs us Q I r h
  obtain ⟨a, L, rfl, ha, hk, al, q⟩ := h
  rw [Vals.ref1 r]
  obtain ⟨es, ep, t, h1, h2, h3, h4, h5, h6, h7⟩ : SetNB X.w s.heap a L := (I.hok a _ ha).1
  have R : SetN X.w s.heap a L es ep t := ⟨h1, h2, h3, h4, fun e he => isN_of I (hk e he).1 (hk e he).2.1, h5, h6, h7⟩
  refine sorted_setN R (I.ok.hd hc) (fun e he => Dp.reads I _ _ _ (hk e he).1 rfl) al (fun e he => (hk e he).2.2) (fun e he => (hk e he).2.1) (by omega) fun s' p out c M k g o hp hg hout pm pw => ?_
  have lenM : (M.map fun e : KA => V.ref e.2).length ≤ sizeLine := by rw [List.length_map, pm.length_eq, sizeLine_eq]; omega
  have np : H p = none := I.hok.fresh hp
  have hv : Vals (M.map fun e : KA => V.ref e.2) out.toList := by rw [hout]; exact vals_refs M
  have J : Inv X pins σ (upd H p (.lst (M.map fun e : KA => V.ref e.2))) { s with heap := s'.heap, gens := s'.gens, drawn := s'.drawn, toks := s'.toks } :=
    I.call (ch := []) (Un.laid k hp np) (I.hok.laid k hp ⟨lenM, out.toList, c, hv, hg⟩) (by rw [g]; exact I.bare) (fun _ z => nomatch z)
  have e : s' = { s with heap := s'.heap, gens := s'.gens, drawn := s'.drawn, toks := s'.toks } := by
    cases s'
    cases s
    cases o
    rfl
  rw [e]
  exact ⟨.ref p, _, J, rfl, q M p np pm pw⟩
/-- sorted(xs), xs a list of nested tuples -/
def rSortLN (K : PySem.W.Frag) : List V → Hp → VK → Prop := fun xs H Q => ∃ (l : Addr) (L : List KA), xs = [.ref l] ∧ SqL K H l (L.map fun e => .ref e.2) ∧ (∀ e ∈ L, Dp K H (.ref e.2) e.1.data ∧ e.1.depth ≤ 8 ∧ ∃ k ks, e.1 = .tup (k :: ks)) ∧ (∀ e ∈ L, ∀ e' ∈ L, alike e.1.data e'.1.data = true) ∧ L.length ≤ 4000 ∧
  ∀ (M : List KA) p, H p = none → M.Perm L → M.Pairwise (fun x y => dataLt y.1.data x.1.data = false) → Q (.ref p) (upd H p (.lst (M.map fun e => .ref e.2)))
theorem cr_sortLN (hu : X.A.units + 64 < cLine) : CallR X (.builtin "sorted") (rSortLN X.K) := by
  intro pins s σ H xs us Q I r h
  obtain ⟨l, L, rfl, hl, hk, al, few, q⟩ := h
  rw [Vals.ref1 r]
  obtain ⟨its, rv, pl, hz⟩ := I.list hl
  have eits := refs_vals rv
  subst eits
  refine PySem.W.sorted_data (R := fun v e => v = Value.ref e.2) (bs := L) (enc := fun e : KA => e.1.data) pl.isList (map_each fun _ _ => rfl) (map_each fun e he => Dp.reads I _ _ _ (hk e he).1 rfl) ?_ (.inl ?_) (by rw [sizeLine_eq]; omega) (fun e he => ?_) fun out h1 h2 => ?_
  · intro d hd d' hd'
    obtain ⟨e, he, rfl⟩ := List.mem_map.mp hd
    obtain ⟨e', he', rfl⟩ := List.mem_map.mp hd'
    exact al e he e' he'
  · intro d hd
    obtain ⟨e, he, rfl⟩ := List.mem_map.mp hd
    obtain ⟨k, ks, z⟩ := (hk e he).2.2
    exact ⟨k.data, NestedKey.datas ks, by rw [z]; rfl⟩
  · have z := (hk e he).2.1
    have y : e.1.data.depth = e.1.depth := key_dep e.1
    omega
  · have ho2 := each_map_eq h2
    have pm : (L.mergeSort (dataLe false fun e : KA => e.1.data)).Perm L := List.mergeSort_perm _ _
    obtain ⟨c, hc⟩ := sortedAll_at s.heap (L.map fun e : KA => Value.ref e.2) out.toArray
    have T := PySem.W.sortLe_total (listOrd itemOrd) false fun e : KA => keyToks e.1.data
    have np : H (s.heap.objs.size + 1) = none := I.hok.fresh (Nat.le_succ _)
    refine ⟨.ref (s.heap.objs.size + 1), _, I.laid (t' := s.toks) (o := .lst ((L.mergeSort (dataLe false fun e : KA => e.1.data)).map fun e => V.ref e.2)) (fun b o e => sortedAll_old e) (Nat.le_succ _) ⟨by rw [List.length_map, pm.length_eq, sizeLine_eq]; omega, out, c, by rw [ho2]; exact vals_refs _, hc⟩, rfl, q _ _ np pm ?_⟩
    refine (PySem.W.sort_pairwise T L).imp fun {x y} h => ?_
    have h' : (!dataLt y.1.data x.1.data) = true := h
    simpa using h'
end
/-! ### 8. tuple(sorted(set(xs))) -/
section
variable {K : PySem.W.Frag} {β : Type} {key : β → NestedKey}
/-- values that stand for such things: with their addresses -/
theorem dp_keys {H : Hp} : ∀ {vs : List V} {bs : List β}, (∀ b ∈ bs, ∃ k ks, key b = .tup (k :: ks)) → DpAll K H vs (bs.map fun b => (key b).data) → ∃ as : List Addr, vs = as.map V.ref ∧ as.length = bs.length ∧ ∀ (i : Nat) (a : Addr) (b : β), as[i]? = some a → bs[i]? = some b → Dp K H (.ref a) (key b).data
  | _, [], _, h => by
    cases h
    exact ⟨[], rfl, rfl, fun i a b e => by simp at e⟩
  | _, b :: bs, tp, h => by
    cases h with
    | @cons v vs _ _ h1 h2 =>
      obtain ⟨as, e1, e2, e3⟩ := dp_keys (fun b hb => tp b (List.mem_cons_of_mem _ hb)) h2
      obtain ⟨k, ks, z⟩ := tp b List.mem_cons_self
      have h1' : Dp K H v (key b).data := h1
      rw [z] at h1'
      cases h1' with
      | @tup a _ _ hs ha =>
        refine ⟨a :: as, by rw [e1]; rfl, by rw [List.length_cons, List.length_cons, e2], fun i c d g1 g2 => ?_⟩
        cases i with
        | zero =>
          cases g1
          cases g2
          rw [z]
          exact .tup hs ha
        | succ i => exact e3 i c d g1 g2
theorem zip_fst {α γ : Type} : ∀ {as : List α} {bs : List γ}, as.length = bs.length → (as.zip bs).map Prod.fst = as
  | [], [], _ => rfl
  | a :: as, b :: bs, h => by
    rw [List.zip_cons_cons, List.map_cons, zip_fst (Nat.succ.inj h)]
theorem zip_snd {α γ : Type} : ∀ {as : List α} {bs : List γ}, as.length = bs.length → (as.zip bs).map Prod.snd = bs
  | [], [], _ => rfl
  | a :: as, b :: bs, h => by
    rw [List.zip_cons_cons, List.map_cons, zip_snd (Nat.succ.inj h)]
theorem zip_get {α γ : Type} {as : List α} {bs : List γ} {p : α × γ} (h : p ∈ as.zip bs) : ∃ i : Nat, as[i]? = some p.1 ∧ bs[i]? = some p.2 := by
  obtain ⟨i, hi⟩ := List.getElem?_of_mem h
  rw [List.getElem?_zip_eq_some] at hi
  exact ⟨i, hi.1, hi.2⟩
theorem perm_pick {M L : List KA} (pm : M.Perm L) : ∀ e ∈ M, e ∈ L := fun e he => pm.mem_iff.mp he
/-- back from keys to things -/
theorem keys_back : ∀ {M : List KA} {bs : List β}, (∀ e ∈ M, ∃ b ∈ bs, e.1 = key b) → ∃ ms : List β, M.map (·.1) = ms.map key ∧ ∀ b ∈ ms, b ∈ bs
  | [], _, _ => ⟨[], rfl, fun _ h => nomatch h⟩
  | e :: M, bs, h => by
    obtain ⟨b, hb, eb⟩ := h e List.mem_cons_self
    obtain ⟨ms, e1, e2⟩ := keys_back (M := M) fun e he => h e (List.mem_cons_of_mem _ he)
    refine ⟨b :: ms, by rw [List.map_cons, List.map_cons, eb, e1], fun c hc => ?_⟩
    rcases List.mem_cons.mp hc with z | z
    · rw [z]
      exact hb
    · exact e2 c z
theorem dpAll_of {H : Hp} : ∀ {M : List KA}, (∀ e ∈ M, Dp K H (.ref e.2) e.1.data) → DpAll K H (M.map fun e => .ref e.2) ((M.map (·.1)).map NestedKey.data)
  | [], _ => .nil
  | e :: M, h => .cons (h e List.mem_cons_self) (dpAll_of fun e he => h e (List.mem_cons_of_mem _ he))
/-- what is sorted out of a set of these is the ascending list of them -/
theorem sorted_is {bs : List β} (R : Ranked key bs) {M : List KA} (nd : (M.map (·.1)).Nodup) (h1 : ∀ e ∈ M, ∃ b ∈ bs, e.1 = key b) (h2 : ∀ b ∈ bs, key b ∈ M.map (·.1)) (pw : M.Pairwise fun x y => dataLt y.1.data x.1.data = false) :
    M.map (·.1) = (ordB (fun b => (key b).data) bs).map key := by
  obtain ⟨ms, e1, e2⟩ := keys_back (bs := bs) h1
  have nm : ms.Nodup := by
    rw [e1] at nd
    exact List.Pairwise.of_map key (fun a b ne e => ne (congrArg key e)) nd
  have pk : (M.map (·.1)).Pairwise fun x y => dataLt y.data x.data = false := List.pairwise_map.mpr pw
  rw [e1, List.pairwise_map] at pk
  have A := asc_sort (R.sub e2) nm (.refl _) pk
  rw [e1, ordB_of A fun b => ⟨e2 b, fun hb => ?_⟩]
  have z := h2 b hb
  rw [e1] at z
  obtain ⟨c, hc, ec⟩ := List.mem_map.mp z
  rw [← R.inj c (e2 c hc) b hb ec]
  exact hc
theorem same_tr {H H1 H2 : Hp} (a : Same H H1) (b : Same H1 H2) : Same H H2 := fun x o h => b x o (a x o h)
theorem lot_go {P : Program} {w : World} {H : Hp} {Q : VK} {bs : List β} {l : Addr} {vs : List V} (hq : Sq K H l vs) (hd : DpAll K H vs (bs.map fun b => (key b).data)) (R : Ranked key bs) (few : bs.length < 64)
    (q : ∀ H' t, Same H H' → H t = none → Dp K H' (.ref t) (.tuple ((ordB (fun b => (key b).data) bs).map fun b => (key b).data)) → Q (.ref t) H') :
    rSetNk K w [.ref l] H fun v1 H1 => rSortedN K w [v1] H1 fun v2 H2 => ∃ p ys, [v2] = [V.ref p] ∧ ((SqL K H2 p ys ∧ ∀ t, H2 t = none → Q (.ref t) (upd H2 t (.tup ys))) ∨ (SqT K H2 p ys ∧ Q (.ref p) H2)) := by
  obtain ⟨as, rfl, len, hda⟩ := dp_keys R.tup hd
  have lk : (bs.map key).length = as.length := by rw [List.length_map, len]
  have dk : ∀ e ∈ (bs.map key).zip as, ∃ b ∈ bs, e.1 = key b ∧ Dp K H (.ref e.2) e.1.data := fun e he => by
    obtain ⟨i, g1, g2⟩ := zip_get he
    rw [List.getElem?_map] at g1
    obtain ⟨b, gb, eb⟩ := Option.map_eq_some_iff.mp g1
    exact ⟨b, List.mem_of_getElem? gb, eb.symm, by rw [← eb]; exact hda i _ b g2 gb⟩
  have refs : ((bs.map key).zip as).map (fun e => V.ref e.2) = as.map V.ref := by
    have z := congrArg (List.map V.ref) (zip_snd lk)
    rwa [List.map_map] at z
  refine ⟨l, (bs.map key).zip as, rfl, by rw [refs]; exact hq, fun e he => ?_, by rw [List.length_zip, List.length_map]; omega, fun p L np h1 h2 nd => ?_⟩
  · obtain ⟨b, hb, e1, e2⟩ := dk e he
    exact ⟨e2, by rw [e1]; exact R.deep b hb⟩
  have s1 := same_new (o := SetNO w p L) np
  have dL : ∀ e ∈ L, ∃ b ∈ bs, e.1 = key b ∧ Dp K (upd H p (SetNO w p L)) (.ref e.2) e.1.data := fun e he => by
    obtain ⟨b, hb, e1, e2⟩ := dk e (h1 e he)
    exact ⟨b, hb, e1, dp_mono s1 _ _ e2⟩
  refine ⟨p, L, rfl, upd_same, fun e he => ?_, fun e he e' he' => ?_, fun M l2 nl pm pw => ?_⟩
  · obtain ⟨b, hb, e1, e2⟩ := dL e he
    obtain ⟨k, ks, z⟩ := R.tup b hb
    exact ⟨e2, by rw [e1]; exact R.deep b hb, k, ks, by rw [e1]; exact z⟩
  · obtain ⟨b, hb, e1, _⟩ := dL e he
    obtain ⟨b', hb', e1', _⟩ := dL e' he'
    rw [e1, e1']
    exact R.alk b hb b' hb'
  have s2 := same_new (o := .lst (M.map fun e => V.ref e.2)) nl
  refine ⟨l2, _, rfl, .inl ⟨SqL.of upd_same, fun t nt => ?_⟩⟩
  have s3 := same_new (o := .tup (M.map fun e => V.ref e.2)) nt
  have sa := same_tr s1 (same_tr s2 s3)
  have is_ : M.map (·.1) = (ordB (fun b => (key b).data) bs).map key := by
    refine sorted_is R ((pm.map (·.1)).nodup_iff.mpr nd) (fun e he => ?_) (fun b hb => ?_) pw
    · obtain ⟨b, hb, e1, _⟩ := dL e (pm.mem_iff.mp he)
      exact ⟨b, hb, e1⟩
    · rw [(pm.map (·.1)).mem_iff]
      have z : key b ∈ ((bs.map key).zip as).map Prod.fst := by
        rw [zip_fst lk]
        exact List.mem_map.mpr ⟨b, hb, rfl⟩
      obtain ⟨e, he, ee⟩ := List.mem_map.mp z
      rw [← ee]
      exact h2 e he
  refine q _ t sa ?_ ?_
  · have n2 : upd H p (SetNO w p L) t = none := by
      by_cases e : t = l2
      · rw [e]
        exact nl
      · rwa [upd_ne e] at nt
    by_cases e : t = p
    · rw [e]
      exact np
    · rwa [upd_ne e] at n2
  · have z := dpAll_of (K := K) (H := upd (upd (upd H p (SetNO w p L)) l2 (.lst (M.map fun e => V.ref e.2))) t (.tup (M.map fun e => V.ref e.2))) (M := M) fun e he => by
      obtain ⟨b, hb, e1, e2⟩ := dL e (pm.mem_iff.mp he)
      exact dp_mono (same_tr s2 s3) _ _ e2
    rw [is_, List.map_map] at z
    exact .tup (SqT.of upd_same) z
end
end Say

set_option Elab.async false
set_option linter.all false
set_option maxRecDepth 100000
set_option maxHeartbeats 4000000
/-! enumerate(v), v a list or a tuple -/
namespace Say
open PySem PySem.Spec PyProof.Rows L2
set_option maxHeartbeats 1000000 in
theorem meets_enum1 {v : Value} {o : Obj} {G : Heap → Prop} (B : Begins v o G) :
    Meets (Builtin.«enumerate.__new__» ⟨[.type "enumerate", v], []⟩) (fun _ R s => G s.heap ∧ R (.ok (.ret (.ref (s.heap.push o).objs.size)))
      { s with heap := (s.heap.push o).push { cls := .type "enumerate", data := .fields #[.none, .bool false, .ref s.heap.objs.size, rawInt 0, .none, .none] } }) :=
  .of_wp fun prog w A R s h => by
    obtain ⟨hp, g, d, tk, os⟩ := s
    obtain ⟨g1, h⟩ := h
    have hsub := sub_enumerate
    have z : ∀ {A' : Around} {E Q : Value → Shared → Prop}, Q (.ref hp.objs.size) ⟨hp.push o, g, d, tk, os⟩ → wpAny (model prog w) A' (pyIter v) Q E ⟨hp, g, d, tk, os⟩ := fun q => B.iter prog w _ _ ⟨hp, g, d, tk, os⟩ _ g1 q
    wp_walk using z
    refine wpAny_stack_any fun st => wpAny_pure ?_
    split
    · rename_i c _ _ _ _ _
      cases (c == Value.type "enumerate") <;> (wp_walk using z; exact ⟨_, rfl, h⟩)
    · wp_walk using z
      exact ⟨_, rfl, h⟩
theorem enum1_call {prog : Program} {w : World} {A : Around} {E : Value → Shared → Prop} {s : Shared} {v : Value} {o : Obj} {G : Heap → Prop} {Q : Value → Shared → Prop} (B : Begins v o G) (g1 : G s.heap)
    (h : ∀ h', IsEnum h' (s.heap.objs.size + 1) s.heap.objs.size 0 .none → h'.get? s.heap.objs.size = some o → (∀ b o, s.heap.get? b = some o → h'.get? b = some o) → Q (.ref (s.heap.objs.size + 1)) { s with heap := h' }) :
    wpAny (model prog w) A (call (.type "enumerate") [v]) Q E s := by
  refine callType_new F.called_enumerate (by decide) (F.typeCall_enumerate_1 _) (F.newCall_enumerate_1 _) (fun obj => F.args_object_init_2 obj _) F.entry_enumerate_new (meets_enum1 B) ⟨g1, ?_⟩
  have sz : (s.heap.push o).objs.size = s.heap.objs.size + 1 := Heap.size_push ..
  show _ ∧ _
  rw [sz]
  have he : IsEnum ((s.heap.push o).push { cls := .type "enumerate", data := .fields #[.none, .bool false, .ref s.heap.objs.size, rawInt 0, .none, .none] }) (s.heap.objs.size + 1) s.heap.objs.size 0 .none := by
    have k := Heap.get?_push_size (s.heap.push o) (o := { cls := .type "enumerate", data := .fields #[.none, .bool false, .ref s.heap.objs.size, rawInt 0, .none, .none] }) rfl
    rw [sz] at k
    exact k
  exact ⟨⟨_, he, rfl⟩, h _ he (Heap.get?_push_of_some _ (Heap.get?_push_size _ B.free)) fun b o x => Heap.get?_push_of_some _ (Heap.get?_push_of_some _ x)⟩
/-- the tuple at a as it stands at each turn, each item in a new pair -/
def IteT (K : PySem.W.Frag) (a : Addr) : It :=
  ⟨fun i H => ∃ (xs : List V) (x : V), SqT K H a xs ∧ xs[i]? = some x, fun i H v H' => ∃ T x, v = .ref T ∧ H T = none ∧ H' = upd H T (.tup [.int (i : Nat), x]) ∧ ∀ xs, SqT K H a xs → xs[i]? = some x, fun i H => ∃ xs : List V, SqT K H a xs ∧ xs.length = i⟩
theorem turn_enumT {P : Program} {w : World} {K : PySem.W.Frag} {elts : List Expr} {kk : Nat} {tpos : Pos} (a e it : Addr) (hai : a ≠ it) (hae : e ≠ a) :
    Turn P w K (.Tuple elts kk tpos) (IteT K a) [e, it] e (fun i h => (∃ old, IsEnum h e it ((i : Nat) : Int) old) ∧ h.IsTupleIter it a i ∧ e ≠ it) where
  mem := by simp
  obj := fun i h st b hb => by
    obtain ⟨⟨old, he⟩, ⟨o, ho, hc, hd⟩, _⟩ := st
    rcases (by simpa using hb : b = e ∨ b = it) with rfl | rfl
    · exact ⟨_, he, fun v q => nomatch q⟩
    · exact ⟨o, ho, fun v q => by rw [hd] at q; cases q⟩
  keep := fun i h h' st k => let ⟨⟨old, he⟩, hi, hne⟩ := st; ⟨⟨old, k e (by simp) _ he⟩, hi.at fun o q => k it (by simp) o q, hne⟩
  item := by
    intro X hP hw hK hc i pins s σ H E I hf st hg
    subst hP hw hK
    obtain ⟨⟨old, he⟩, hit, hne⟩ := st
    obtain ⟨xs, x, hq, hx⟩ := hg
    obtain ⟨its, rv, p, hz⟩ := I.tuple hq
    obtain ⟨u, hu, ru⟩ := rv.get hx
    have le : e < s.heap.objs.size := Heap.lt_size he
    have li : it < s.heap.objs.size := by
      obtain ⟨_, q, _⟩ := hit
      exact Heap.lt_size q
    have hh : X.A.in1.handled = none := I.ok.hd hc
    have D := Draws.tuple (prog := X.prog) (w := X.w) hh it a hai its.toArray
    have lt : i < its.toArray.size := by
      have y := (List.getElem?_eq_some_iff.mp hu).1
      simpa using y
    refine wpAny_pyNext_enum_itemD D he ⟨hit, p⟩ lt hne (by simp [hne, hae]) fun x' h' tk hPx ho hst' hT hsz hk => ?_
    have ex : x' = u := by
      have y : its.toArray[i]? = some x' := hPx
      rw [List.getElem?_toArray, hu] at y
      exact (Option.some.inj y).symm
    subst ex
    refine ⟨_, rfl, wpAny_letOwnedTupleGo_enum (s := { s with heap := h', toks := tk + 1 }) ho fun h'' he' sb => ?_⟩
    have hT2 : h''.get? s.heap.objs.size = some { cls := .type "tuple", data := .seq #[.int i tk, x'] } := (sb.2 _ (Nat.ne_of_gt le)).trans hT
    have new : ObjOk X.prog X.w (upd H s.heap.objs.size (.tup [.int (i : Nat), x])) h'' s.heap.objs.size (.tup [.int (i : Nat), x]) :=
      ⟨by show 2 ≤ sizeLine; decide, [.int i tk, x'], .cons ⟨_, rfl⟩ (.cons ru .nil), ⟨_, hT2, rfl, _, rfl⟩⟩
    have I1 : Inv X pins σ (upd H s.heap.objs.size (.tup [.int (i : Nat), x])) { s with heap := h'', toks := tk + 1 } :=
      I.turnedNew (ch := [e, it]) (fun b ob hb q => (sb.2 b (fun z => hb (by simp [z]))).trans (hk b ob (fun z => hb (by simp [z])) (fun z => hb (by simp [z])) q)) hf (Nat.le_refl _) new
    refine ⟨.ref s.heap.objs.size, _, I1, rfl, ⟨_, x, rfl, I.hok.fresh (Nat.le_refl _), rfl, fun ys hy => ?_⟩, ⟨⟨x', ?_⟩, hst'.1.at fun o q => (sb.2 it (Ne.symm hne)).trans q, hne⟩, fun b hb => ?_⟩
    · rw [I.tuple_inj hy hq]
      exact hx
    · have e1 : ((i + 1 : Nat) : Int) = (i : Int) + 1 := by omega
      rw [e1]
      exact he'
    · have lb : b < s.heap.objs.size := by
        rcases (by simpa using hb : b = e ∨ b = it) with rfl | rfl
        · exact le
        · exact li
      rw [upd_ne (Nat.ne_of_lt lb)]
      exact (hf b hb).1
  done := by
    intro X hP hw hK hc i pins s σ H E I hf st hg
    subst hP hw hK
    obtain ⟨⟨old, he⟩, hit, hne⟩ := st
    obtain ⟨xs, hq, hx⟩ := hg
    obtain ⟨its, rv, p, hz⟩ := I.tuple hq
    obtain ⟨f0, f1, f2, f3, f4, f5⟩ := hf it (by simp)
    have hh : X.A.in1.handled = none := I.ok.hd hc
    have n : its.toArray.size = i := by
      have y := rv.length
      simp
      omega
    exact wpAny_pyNext_enum_endD (Draws.tuple (prog := X.prog) (w := X.w) hh it a hai its.toArray) he (by rw [n]; exact ⟨hit, p⟩) fun h' eb => ⟨rfl, I.turned (t' := s.toks) (fun b o hb q => eb b o hb q) f0 f1 f3 f4 f5⟩
  self := fun A i s Q E st h => let ⟨⟨_, he⟩, _⟩ := st; wpAny_pyIter_enum he h
def iEnSq (K : PySem.W.Frag) (ta : TA) : TI := fun σ H R => ta σ H fun vs H1 => ∃ a, vs = [.ref a] ∧ (((∃ xs, SqL K H1 a xs) ∧ R (Ite K a) H1) ∨ ((∃ xs, SqT K H1 a xs) ∧ R (IteT K a) H1))
theorem pi_enumSq {X : Cx} {e : Expr} {ta : TA} {p pos tpos : Pos} {elts : List Expr} {kk : Nat} (hg : Gl X "enumerate") (hm : X.mg "enumerate" = none) (ha : PA X [e] ta) (hs : starEach [e] X.env = [(false, eval e X.env)] := by rfl) :
    PI X (.Tuple elts kk tpos) (.Call (.Name "enumerate" p) [e] [] pos) (iEnSq X.K ta) := by
  refine ⟨fun pins s σ H R I h => ?_⟩
  refine Call_ (ld_blt I hg hm boot_enumerate (PyProof.Rows.callWith_type1 (thn (ha.run pos pins s σ H _ I h) fun us s1 ⟨vs, H1, I1, r1, q1⟩ => ?_) hs rfl))
  obtain ⟨a, ex, q⟩ := q1
  subst ex
  cases r1 with
  | cons r rr =>
    cases rr
    cases r
    have fin : ∀ {J : It} {tn : Nat → Heap → Prop} (h' : Heap), Turn X.prog X.w X.K (.Tuple elts kk tpos) J [s1.heap.objs.size + 1, s1.heap.objs.size] (s1.heap.objs.size + 1) tn → tn 0 h' → R J H1 →
        (∀ b o, s1.heap.get? b = some o → h'.get? b = some o) → PIE X pins σ (.Tuple elts kk tpos) R (.ref (s1.heap.objs.size + 1)) { s1 with heap := h' } := fun {J tn} h' T t0 r hk =>
      ⟨s1.heap.objs.size + 1, [s1.heap.objs.size + 1, s1.heap.objs.size], _, _, H1, rfl, I1.kept (t' := s1.toks) hk, T, t0, fun b hb => by
        have hle : s1.heap.objs.size ≤ b := by
          rcases (by simpa using hb : b = s1.heap.objs.size + 1 ∨ b = s1.heap.objs.size) with rfl | rfl <;> omega
        exact I1.fpOk hle (I1.hok.fresh hle), r⟩
    rcases q with ⟨⟨xs, hq⟩, q⟩ | ⟨⟨xs, hq⟩, q⟩
    · obtain ⟨its, rv, p', hz⟩ := I1.list hq
      exact enum1_call (begins_list a its.toArray) p'.isList fun h' he hit hk => wpAny_pyIter_enum he (fin h' (turn_enum a (s1.heap.objs.size + 1) s1.heap.objs.size) ⟨⟨.none, he⟩, ⟨_, hit, rfl, rfl⟩, Nat.succ_ne_self _⟩ q hk)
    · obtain ⟨its, rv, p', hz⟩ := I1.tuple hq
      have la : a < s1.heap.objs.size := by
        obtain ⟨_, y, _⟩ := (show s1.heap.IsTuple a its.toArray from p')
        exact Heap.lt_size y
      have n1 : a ≠ s1.heap.objs.size := Nat.ne_of_lt la
      have n2 : s1.heap.objs.size + 1 ≠ a := fun z => Nat.lt_asymm la (z ▸ Nat.lt_succ_self _)
      exact enum1_call (begins_tuple a its.toArray) p' fun h' he hit hk => wpAny_pyIter_enum he (fin h' (turn_enumT a (s1.heap.objs.size + 1) s1.heap.objs.size n1 n2) ⟨⟨.none, he⟩, ⟨_, hit, rfl, rfl⟩, Nat.succ_ne_self _⟩ q hk)
theorem walk_enumT {K : PySem.W.Frag} {a : Addr} {xs : List V} : Walk (IteT K a) xs.length (fun H => SqT K H a xs) (YPair (fun i => some (.int (i : Nat))) (fun i => xs[i]?)) := by
  refine ⟨fun i _ hi q => ⟨xs, xs[i], q, by simp [hi]⟩, fun _ q => ⟨xs, q, rfl⟩, fun i H v H' _ q y => ?_⟩
  obtain ⟨T, x, h1, h2, h3, h4⟩ := y
  exact ⟨T, .int (i : Nat), x, h1, h2, h3, rfl, h4 xs q⟩
/-! ### one reading for a for, and one for a comprehension, over a list or a tuple -/
/-- the turns of a for -/
abbrev ForR (J : It) (g : TG) (tb : TS) (D : Ends) (σ : L2.St) (H : Hp) : Prop := ∃ W : Nat → Nat → L2.St → Hp → Prop, (∃ m, W 0 m σ H) ∧ ∀ i m σ H, W i m σ H →
  (J.stop i H ∧ D.nx σ H) ∨ (J.go i H ∧ ∃ N : L2.St → Hp → Prop, (∀ σ' H', N σ' H' → ∃ m', m' < m ∧ W (i + 1) m' σ' H') ∧ ∀ x H', J.yld i H x H' → g x σ H' fun σ2 H2 => tb { D with nx := N, ct := N, bk := D.nx } σ2 H2)
theorem for_enSq {K : PySem.W.Frag} {a : Addr} {xs : List V} {g : TG} {tb : TS} {D : Ends} {σ : L2.St} {H : Hp} (Pv : Nat → L2.St → Hp → Prop) (hq : Sq K H a xs) (h0 : Pv 0 σ H)
    (hl : ∀ i σ H', i ≤ xs.length → Pv i σ H' → Same H H')
    (hs : ∀ i x σ H' T, xs[i]? = some x → Pv i σ H' → H' T = none → g (.ref T) σ (upd H' T (.tup [.int (i : Nat), x])) fun σ2 H2 => tb { D with nx := Pv (i + 1), ct := Pv (i + 1), bk := D.nx } σ2 H2) (hd : ∀ σ H', Pv xs.length σ H' → D.nx σ H') :
    ((∃ xs, SqL K H a xs) ∧ ForR (Ite K a) g tb D σ H) ∨ ((∃ xs, SqT K H a xs) ∧ ForR (IteT K a) g tb D σ H) := by
  have st : ∀ i x σ H' H2, i < xs.length → Pv i σ H' → YPair (fun i => some (.int (i : Nat))) (fun i => xs[i]?) i H' x H2 → g x σ H2 fun σ2 H2 => tb { D with nx := Pv (i + 1), ct := Pv (i + 1), bk := D.nx } σ2 H2 := fun i x σ H' H2 hi p y => by
    obtain ⟨T, u, v, rfl, n, rfl, e1, e2⟩ := y
    cases e1
    exact hs i v σ H' T e2 p n
  rcases hq with hq | hq
  · exact .inl ⟨⟨xs, hq⟩, for_it (walk_enum (K := K) (a := a) (xs := xs)) Pv h0 (fun i σ H' hi p => (hl i σ H' hi p).seq hq) st hd⟩
  · exact .inr ⟨⟨xs, hq⟩, for_it (walk_enumT (K := K) (a := a) (xs := xs)) Pv h0 (fun i σ H' hi p => grow_sqT (grow_same (hl i σ H' hi p)) hq) st hd⟩
/-- the turns of a comprehension into the list at D -/
abbrev LcR (J : It) (g : TG) (tt : TT) (te : TE) (vs : List Nat) (σ : L2.St) (H1 : Hp) (D : Addr) (Qd : Hp → Prop) : Prop := ∃ W : Nat → Nat → Hp → Prop, (∃ m, W 0 m (upd H1 D (.lst []))) ∧ ∀ i m H, W i m H →
  (J.stop i H ∧ Qd H) ∨ (J.go i H ∧ ∃ Nx : Hp → Prop, (∀ H', Nx H' → ∃ m', m' < m ∧ W (i + 1) m' H') ∧ ∀ x H', J.yld i H x H' → g x (wipe σ vs) H' fun σ2 H2 => wipe σ2 vs = wipe σ vs ∧ tt σ2 H2 fun b H3 =>
    if b = true then te σ2 H3 fun y H4 => ∃ acc, H4 D = some (.lst acc) ∧ acc.length < sizeLine ∧ Nx (upd H4 D (.lst (acc ++ [y]))) else Nx H3)
/-- what is made so far is in the list at D, and all that stood, stands -/
def LcI (H0 : Hp) (D : Addr) (ys : List V) (H : Hp) : Prop := Same H0 H ∧ H D = some (.lst ys)
theorem lci_0 {H0 : Hp} {D : Addr} (n : H0 D = none) : LcI H0 D [] (upd H0 D (.lst [])) := ⟨same_new n, upd_same⟩
theorem lci_step {H0 H : Hp} {D : Addr} {ys zs : List V} {y : V} (h : LcI H0 D ys H) (n : H0 D = none) (hl : ys.length < sizeLine) (e : zs = ys ++ [y]) :
    ∃ acc, H D = some (.lst acc) ∧ acc.length < sizeLine ∧ LcI H0 D zs (upd H D (.lst (acc ++ [y]))) := ⟨ys, h.2, hl, same_upd h.1 n, by rw [e]; exact upd_same⟩
theorem lc_sq {K : PySem.W.Frag} {a : Addr} {xs : List V} {g : TG} {tt : TT} {te : TE} {vs : List Nat} {σ : L2.St} {H : Hp} {Qd : Addr → Hp → Prop} (out : Nat → List V) (hq : Sq K H a xs) (h0 : out 0 = [])
    (hs : ∀ D, H D = none → ∀ i x H', xs[i]? = some x → LcI H D (out i) H' → g x (wipe σ vs) H' fun σ2 H2 => wipe σ2 vs = wipe σ vs ∧ tt σ2 H2 fun b H3 =>
      if b = true then te σ2 H3 fun y H4 => ∃ acc, H4 D = some (.lst acc) ∧ acc.length < sizeLine ∧ LcI H D (out (i + 1)) (upd H4 D (.lst (acc ++ [y]))) else LcI H D (out (i + 1)) H3)
    (hd : ∀ D H', H D = none → LcI H D (out xs.length) H' → Qd D H') :
    ((∃ xs, SqL K H a xs) ∧ ∀ D, H D = none → LcR (Itl K a) g tt te vs σ H D (Qd D)) ∨ ((∃ xs, SqT K H a xs) ∧ ∀ D, H D = none → LcR (Itt K a) g tt te vs σ H D (Qd D)) := by
  rcases hq with hq | hq
  · refine .inl ⟨⟨xs, hq⟩, fun D hD => lc_it (walk_list (K := K) (a := a) (xs := xs)) (fun i => LcI H D (out i)) (by rw [h0]; exact lci_0 hD) (fun i H' hi p => p.1.seq hq) (fun i x H' H2 hi p y => ?_) fun H' p => hd D H' hD p⟩
    obtain ⟨rfl, y⟩ := y
    exact hs D hD i x H2 y p
  · refine .inr ⟨⟨xs, hq⟩, fun D hD => lc_it (walk_tup (K := K) (a := a) (xs := xs)) (fun i => LcI H D (out i)) (by rw [h0]; exact lci_0 hD) (fun i H' hi p => grow_sqT (grow_same p.1) hq) (fun i x H' H2 hi p y => ?_) fun H' p => hd D H' hD p⟩
    obtain ⟨rfl, y⟩ := y
    exact hs D hD i x H2 y p
/-- xs[k], xs a local that holds a list or a tuple -/
theorem ixv {K : PySem.W.Frag} {H : Hp} {σ : L2.St} {i : Nat} {k : Int} {a : Addr} {xs : List V} {v : V} {Q : VK} (e : σ[i]? = some (some (.ref a))) (h : Sq K H a xs) (hv : atI xs k = some v) (q : Q v H) : tOp (rIxS2 K) (tVar i) (tC (.int k)) σ H Q :=
  ⟨_, e, ix_at (Q := Q) h hv q⟩
end Say

set_option Elab.async false
set_option linter.all false
set_option maxRecDepth 100000
set_option maxHeartbeats 4000000
/-! comprehensions of two fors; in, of whole numbers -/
namespace Say
open PySem PySem.Spec PyProof.Rows L2
theorem inV_ints (x : Int) : ∀ ns : List Int, inV (.int x) (ns.map V.int) = decide (x ∈ ns)
  | [] => rfl
  | n :: ns => by
    have ih := inV_ints x ns
    unfold inV at ih ⊢
    rw [List.map_cons, List.any_cons, ih]
    have e : eqV (.int n) (.int x) = decide (n = x) := by
      by_cases h : n = x
      · subst h
        simp [eqV]
      · simp [eqV, h]
    rw [e]
    by_cases h : n = x
    · subst h
      simp
    · simp [h, Ne.symm h]
theorem flat_ints (ns : List Int) : (ns.map V.int).all flatV = true := by
  rw [List.all_map]
  exact List.all_eq_true.mpr fun _ _ => rfl
/-- x in xs, whole numbers -/
theorem in_ints {K : PySem.W.Frag} {H : Hp} {a : Addr} {x : Int} {ns : List Int} {Q : VK} (h : Sq K H a (ns.map V.int)) (q : Q (.bl (decide (x ∈ ns))) H) : rIn K false (.int x) (.ref a) H Q :=
  ⟨a, _, rfl, h, rfl, flat_ints ns, by rw [inV_ints]; exact q⟩
theorem notIn_ints {K : PySem.W.Frag} {H : Hp} {a : Addr} {x : Int} {ns : List Int} {Q : VK} (h : Sq K H a (ns.map V.int)) (q : Q (.bl (!decide (x ∈ ns))) H) : rIn K true (.int x) (.ref a) H Q :=
  ⟨a, _, rfl, h, rfl, flat_ints ns, by rw [inV_ints]; exact q⟩
theorem ixK {X : Cx} (K : PySem.W.Frag) (h : X.K = K) : IxR X (rIxS2 K) := h ▸ ix_sq
theorem inK {X : Cx} (K : PySem.W.Frag) (h : X.K = K) : OpR X (compareOp .In) (rIn K false) := h ▸ op_in_seq
theorem notInK {X : Cx} (K : PySem.W.Frag) (h : X.K = K) : OpR X (compareOp .NotIn) (rIn K true) := h ▸ op_notIn_seq
theorem pi_sqK {X : Cx} {tg l : Expr} {tl : TE} (K : PySem.W.Frag) (h : X.K = K) (hl : PE X l tl) : PI X tg l (iSq K tl) := h ▸ pi_sq hl
section
variable {J : It} {n : Nat} {G : Hp → Prop} {Y : Nat → Hp → V → Hp → Prop}
/-- the inner turns -/
theorem lcin_it (w : Walk J n G Y) {g : TG} {tt : TT} {te : TE} {vs : List Nat} {σ : L2.St} {H1 : Hp} {D : Addr} {Nx : Hp → Prop} (Pv : Nat → Hp → Prop) (h0 : Pv 0 H1) (hG : ∀ i H, i ≤ n → Pv i H → G H)
    (hs : ∀ i x H H', i < n → Pv i H → Y i H x H' → g x (wipe σ vs) H' fun σ2 H2 => wipe σ2 vs = wipe σ vs ∧ tt σ2 H2 fun b H3 =>
      if b = true then te σ2 H3 fun y H4 => ∃ acc, H4 D = some (.lst acc) ∧ acc.length < sizeLine ∧ Pv (i + 1) (upd H4 D (.lst (acc ++ [y]))) else Pv (i + 1) H3) (hd : ∀ H, Pv n H → Nx H) :
    ∃ W : Nat → Nat → Hp → Prop, (∃ m, W 0 m H1) ∧ ∀ i m H, W i m H →
      (J.stop i H ∧ Nx H) ∨ (J.go i H ∧ ∃ Nx1 : Hp → Prop, (∀ H', Nx1 H' → ∃ m', m' < m ∧ W (i + 1) m' H') ∧ ∀ x H', J.yld i H x H' → g x (wipe σ vs) H' fun σ2 H2 => wipe σ2 vs = wipe σ vs ∧ tt σ2 H2 fun b H3 =>
        if b = true then te σ2 H3 fun y H4 => ∃ acc, H4 D = some (.lst acc) ∧ acc.length < sizeLine ∧ Nx1 (upd H4 D (.lst (acc ++ [y]))) else Nx1 H3) := by
  refine ⟨fun i m H => m = n - i ∧ i ≤ n ∧ Pv i H, ⟨n, by simp, Nat.zero_le _, h0⟩, ?_⟩
  rintro i m H ⟨rfl, hi, p⟩
  have q := hG i H hi p
  by_cases hlt : i < n
  · refine .inr ⟨w.goes i H hlt q, Pv (i + 1), fun H' p' => ⟨n - (i + 1), by omega, rfl, hlt, p'⟩, fun x H' y => hs i x H H' hlt p (w.yields i H x H' hlt q y)⟩
  · have e : i = n := by omega
    subst e
    exact .inl ⟨w.stops H q, hd H p⟩
end
abbrev LcIn (J : It) (g : TG) (tt : TT) (te : TE) (vs : List Nat) (σ : L2.St) (H1 : Hp) (D : Addr) (Nx : Hp → Prop) : Prop := ∃ W : Nat → Nat → Hp → Prop, (∃ m, W 0 m H1) ∧ ∀ i m H, W i m H →
  (J.stop i H ∧ Nx H) ∨ (J.go i H ∧ ∃ Nx1 : Hp → Prop, (∀ H', Nx1 H' → ∃ m', m' < m ∧ W (i + 1) m' H') ∧ ∀ x H', J.yld i H x H' → g x (wipe σ vs) H' fun σ2 H2 => wipe σ2 vs = wipe σ vs ∧ tt σ2 H2 fun b H3 =>
    if b = true then te σ2 H3 fun y H4 => ∃ acc, H4 D = some (.lst acc) ∧ acc.length < sizeLine ∧ Nx1 (upd H4 D (.lst (acc ++ [y]))) else Nx1 H3)
/-- the inner for over a list or a tuple -/
theorem lcin_sq {K : PySem.W.Frag} {a : Addr} {xs : List V} {g : TG} {tt : TT} {te : TE} {vs : List Nat} {σ : L2.St} {H H0 : Hp} {D : Addr} {Nx : Hp → Prop} (out : Nat → List V) (hq : Sq K H0 a xs) (h0 : LcI H0 D (out 0) H)
    (hs : ∀ i x H', xs[i]? = some x → LcI H0 D (out i) H' → g x (wipe σ vs) H' fun σ2 H2 => wipe σ2 vs = wipe σ vs ∧ tt σ2 H2 fun b H3 =>
      if b = true then te σ2 H3 fun y H4 => ∃ acc, H4 D = some (.lst acc) ∧ acc.length < sizeLine ∧ LcI H0 D (out (i + 1)) (upd H4 D (.lst (acc ++ [y]))) else LcI H0 D (out (i + 1)) H3)
    (hd : ∀ H', LcI H0 D (out xs.length) H' → Nx H') :
    ((∃ xs, SqL K H a xs) ∧ LcIn (Itl K a) g tt te vs σ H D Nx) ∨ ((∃ xs, SqT K H a xs) ∧ LcIn (Itt K a) g tt te vs σ H D Nx) := by
  rcases hq with hq | hq
  · refine .inl ⟨⟨xs, h0.1.seq hq⟩, lcin_it (walk_list (K := K) (a := a) (xs := xs)) (fun i => LcI H0 D (out i)) h0 (fun i H' hi p => p.1.seq hq) (fun i x H' H2 hi p y => ?_) fun H' p => hd H' p⟩
    obtain ⟨rfl, y⟩ := y
    exact hs i x H2 y p
  · refine .inr ⟨⟨xs, grow_sqT (grow_same h0.1) hq⟩, lcin_it (walk_tup (K := K) (a := a) (xs := xs)) (fun i => LcI H0 D (out i)) h0 (fun i H' hi p => grow_sqT (grow_same p.1) hq) (fun i x H' H2 hi p y => ?_) fun H' p => hd H' p⟩
    obtain ⟨rfl, y⟩ := y
    exact hs i x H2 y p
abbrev Lc2R (J : It) (g : TG) (tt : TT) (wi1 : TI) (g1 : TG) (tt1 : TT) (te : TE) (vs vs1 : List Nat) (σ : L2.St) (H1 : Hp) (D : Addr) (Qd : Hp → Prop) : Prop := ∃ W : Nat → Nat → Hp → Prop, (∃ m, W 0 m (upd H1 D (.lst []))) ∧ ∀ i m H, W i m H →
  (J.stop i H ∧ Qd H) ∨ (J.go i H ∧ ∃ Nx : Hp → Prop, (∀ H', Nx H' → ∃ m', m' < m ∧ W (i + 1) m' H') ∧ ∀ x H', J.yld i H x H' → g x (wipe σ vs) H' fun σ2 H2 => wipe σ2 vs = wipe σ vs ∧ tt σ2 H2 fun b H3 =>
    if b = true then wi1 σ2 H3 fun J1 H4 => LcIn J1 g1 tt1 te vs1 σ2 H4 D Nx else Nx H3)
theorem lc2_it {J : It} {n : Nat} {G : Hp → Prop} {Y : Nat → Hp → V → Hp → Prop} (w : Walk J n G Y) {g : TG} {tt : TT} {wi1 : TI} {g1 : TG} {tt1 : TT} {te : TE} {vs vs1 : List Nat} {σ : L2.St} {H1 : Hp} {D : Addr} {Qd : Hp → Prop} (Pv : Nat → Hp → Prop) (h0 : Pv 0 (upd H1 D (.lst []))) (hG : ∀ i H, i ≤ n → Pv i H → G H)
    (hs : ∀ i x H H', i < n → Pv i H → Y i H x H' → g x (wipe σ vs) H' fun σ2 H2 => wipe σ2 vs = wipe σ vs ∧ tt σ2 H2 fun b H3 =>
      if b = true then wi1 σ2 H3 fun J1 H4 => LcIn J1 g1 tt1 te vs1 σ2 H4 D (Pv (i + 1)) else Pv (i + 1) H3) (hd : ∀ H, Pv n H → Qd H) :
    Lc2R J g tt wi1 g1 tt1 te vs vs1 σ H1 D Qd := by
  refine ⟨fun i m H => m = n - i ∧ i ≤ n ∧ Pv i H, ⟨n, by simp, Nat.zero_le _, h0⟩, ?_⟩
  rintro i m H ⟨rfl, hi, p⟩
  have q := hG i H hi p
  by_cases hlt : i < n
  · exact .inr ⟨w.goes i H hlt q, Pv (i + 1), fun H' p' => ⟨n - (i + 1), by omega, rfl, hlt, p'⟩, fun x H' y => hs i x H H' hlt p (w.yields i H x H' hlt q y)⟩
  · have e : i = n := by omega
    subst e
    exact .inl ⟨w.stops H q, hd H p⟩
theorem lc2_sq {K : PySem.W.Frag} {a : Addr} {xs : List V} {g : TG} {tt : TT} {wi1 : TI} {g1 : TG} {tt1 : TT} {te : TE} {vs vs1 : List Nat} {σ : L2.St} {H : Hp} {Qd : Addr → Hp → Prop} (out : Nat → List V) (hq : Sq K H a xs) (h0 : out 0 = [])
    (hs : ∀ D, H D = none → ∀ i x H', xs[i]? = some x → LcI H D (out i) H' → g x (wipe σ vs) H' fun σ2 H2 => wipe σ2 vs = wipe σ vs ∧ tt σ2 H2 fun b H3 =>
      if b = true then wi1 σ2 H3 fun J1 H4 => LcIn J1 g1 tt1 te vs1 σ2 H4 D (LcI H D (out (i + 1))) else LcI H D (out (i + 1)) H3)
    (hd : ∀ D H', H D = none → LcI H D (out xs.length) H' → Qd D H') :
    ((∃ xs, SqL K H a xs) ∧ ∀ D, H D = none → Lc2R (Itl K a) g tt wi1 g1 tt1 te vs vs1 σ H D (Qd D)) ∨ ((∃ xs, SqT K H a xs) ∧ ∀ D, H D = none → Lc2R (Itt K a) g tt wi1 g1 tt1 te vs vs1 σ H D (Qd D)) := by
  rcases hq with hq | hq
  · refine .inl ⟨⟨xs, hq⟩, fun D hD => lc2_it (walk_list (K := K) (a := a) (xs := xs)) (fun i => LcI H D (out i)) (by rw [h0]; exact lci_0 hD) (fun i H' hi p => p.1.seq hq) (fun i x H' H2 hi p y => ?_) fun H' p => hd D H' hD p⟩
    obtain ⟨rfl, y⟩ := y
    exact hs D hD i x H2 y p
  · refine .inr ⟨⟨xs, hq⟩, fun D hD => lc2_it (walk_tup (K := K) (a := a) (xs := xs)) (fun i => LcI H D (out i)) (by rw [h0]; exact lci_0 hD) (fun i H' hi p => grow_sqT (grow_same p.1) hq) (fun i x H' H2 hi p y => ?_) fun H' p => hd D H' hD p⟩
    obtain ⟨rfl, y⟩ := y
    exact hs D hD i x H2 y p
end Say

set_option Elab.async false
set_option linter.all false
set_option maxRecDepth 100000
set_option maxHeartbeats 4000000
/-! lists of data that grow -/
namespace Say
open PySem PySem.Spec PyProof.Rows L2
/-- at D stands a list of our own, its items are data -/
def LD (K : PySem.W.Frag) (H : Hp) (D : Addr) (ds : List PyData) : Prop := ∃ vs, H D = some (.lst vs) ∧ DpAll K H vs ds
theorem firmAll_map {α : Type} {f : α → PyData} (h : ∀ x, firm (f x) = true) : ∀ l : List α, firmAll (l.map f) = true
  | [] => rfl
  | x :: l => by
    rw [List.map_cons]
    show (firm (f x) && firmAll (l.map f)) = true
    rw [h x, firmAll_map h l]
    rfl
theorem firmAll_app : ∀ {a b : List PyData}, firmAll a = true → firmAll b = true → firmAll (a ++ b) = true
  | [], _, _, h => h
  | x :: a, b, h, k => by
    have h' : (firm x && firmAll a) = true := h
    rw [Bool.and_eq_true] at h'
    show (firm x && firmAll (a ++ b)) = true
    rw [h'.1, firmAll_app h'.2 k]
    rfl
theorem firm_mem : ∀ {ds : List PyData}, firmAll ds = true → ∀ d ∈ ds, firm d = true
  | x :: a, h, d, hd => by
    have h' : (firm x && firmAll a) = true := h
    rw [Bool.and_eq_true] at h'
    rcases List.mem_cons.mp hd with rfl | hd
    · exact h'.1
    · exact firm_mem h'.2 d hd
theorem LD.len {K : PySem.W.Frag} {H : Hp} {D : Addr} {ds : List PyData} {vs : List V} (h : DpAll K H vs ds) : vs.length = ds.length := dpAll_len h
theorem LD.sq {K : PySem.W.Frag} {H : Hp} {D : Addr} {ds : List PyData} (h : LD K H D ds) : ∃ vs, SqL K H D vs ∧ DpAll K H vs ds := let ⟨vs, h1, h2⟩ := h; ⟨vs, SqL.of h1, h2⟩
theorem LD.same {K : PySem.W.Frag} {H H' : Hp} {D : Addr} {ds : List PyData} (s : Same H H') (h : LD K H D ds) : LD K H' D ds := by
  obtain ⟨vs, h1, h2⟩ := h
  exact ⟨vs, s _ _ h1, dpAll_mono s _ _ h2⟩
theorem LD.grow {K : PySem.W.Frag} {H H' : Hp} {D : Addr} {ds : List PyData} (g : Grow H H') (e : H' D = H D) (f : firmAll ds = true) (h : LD K H D ds) : LD K H' D ds := by
  obtain ⟨vs, h1, h2⟩ := h
  exact ⟨vs, e.trans h1, dpAll_grow g _ _ f h2⟩
/-- an object of another kind, or another list, is written -/
theorem LD.other {K : PySem.W.Frag} {H : Hp} {D l : Addr} {ds : List PyData} {o : HO} (h : LD K H D ds) (g : Grow H (upd H l o)) (n : D ≠ l) (f : firmAll ds = true) : LD K (upd H l o) D ds := h.grow g (upd_ne n) f
theorem LD.push {K : PySem.W.Frag} {H : Hp} {D : Addr} {vs : List V} {ds : List PyData} {y : V} {d : PyData} (h1 : H D = some (.lst vs)) (h2 : DpAll K H vs ds) (hy : Dp K H y d) (f : firmAll ds = true) (fd : firm d = true) :
    LD K (upd H D (.lst (vs ++ [y]))) D (ds ++ [d]) :=
  ⟨_, upd_same, dpAll_app (dpAll_grow (grow_lst h1) _ _ f h2) (.cons (dp_grow (grow_lst h1) _ _ fd hy) .nil)⟩
theorem LD.new {K : PySem.W.Frag} {H : Hp} {D : Addr} : LD K (upd H D (.lst [])) D [] := ⟨[], upd_same, .nil⟩
/-- the heap of a comprehension of data -/
def LcD (K : PySem.W.Frag) (H0 : Hp) (D : Addr) (ds : List PyData) (H : Hp) : Prop := Same H0 H ∧ LD K H D ds
theorem lcd_step {K : PySem.W.Frag} {H0 H H1 : Hp} {D : Addr} {ds es : List PyData} {y : V} {d : PyData} (h : LcD K H0 D ds H) (s : Same H H1) (n : H0 D = none) (hl : ds.length < sizeLine) (f : firmAll ds = true) (fd : firm d = true) (hy : Dp K H1 y d) (e : es = ds ++ [d]) :
    ∃ acc, H1 D = some (.lst acc) ∧ acc.length < sizeLine ∧ LcD K H0 D es (upd H1 D (.lst (acc ++ [y]))) := by
  obtain ⟨s0, vs, h1, h2⟩ := h
  have h2' := dpAll_mono s _ _ h2
  refine ⟨vs, s _ _ h1, by rw [dpAll_len h2]; exact hl, same_upd (same_trans' s0 s) n, ?_⟩
  rw [e]
  exact LD.push (s _ _ h1) h2' hy f fd
where
  same_trans' {H H1 H2 : Hp} (a : Same H H1) (b : Same H1 H2) : Same H H2 := fun x o h => b x o (a x o h)
theorem lc_sqD {K : PySem.W.Frag} {a : Addr} {xs : List V} {g : TG} {tt : TT} {te : TE} {vs : List Nat} {σ : L2.St} {H : Hp} {Qd : Addr → Hp → Prop} (out : Nat → List PyData) (hq : Sq K H a xs) (h0 : out 0 = [])
    (hs : ∀ D, H D = none → ∀ i x H', xs[i]? = some x → LcD K H D (out i) H' → g x (wipe σ vs) H' fun σ2 H2 => wipe σ2 vs = wipe σ vs ∧ tt σ2 H2 fun b H3 =>
      if b = true then te σ2 H3 fun y H4 => ∃ acc, H4 D = some (.lst acc) ∧ acc.length < sizeLine ∧ LcD K H D (out (i + 1)) (upd H4 D (.lst (acc ++ [y]))) else LcD K H D (out (i + 1)) H3)
    (hd : ∀ D H', H D = none → LcD K H D (out xs.length) H' → Qd D H') :
    ((∃ xs, SqL K H a xs) ∧ ∀ D, H D = none → LcR (Itl K a) g tt te vs σ H D (Qd D)) ∨ ((∃ xs, SqT K H a xs) ∧ ∀ D, H D = none → LcR (Itt K a) g tt te vs σ H D (Qd D)) := by
  have st : ∀ D, H D = none → LcD K H D (out 0) (upd H D (.lst [])) := fun D hD => by
    rw [h0]
    exact ⟨same_new hD, LD.new⟩
  rcases hq with hq | hq
  · refine .inl ⟨⟨xs, hq⟩, fun D hD => lc_it (walk_list (K := K) (a := a) (xs := xs)) (fun i => LcD K H D (out i)) (st D hD) (fun i H' hi p => p.1.seq hq) (fun i x H' H2 hi p y => ?_) fun H' p => hd D H' hD p⟩
    obtain ⟨rfl, y⟩ := y
    exact hs D hD i x H2 y p
  · refine .inr ⟨⟨xs, hq⟩, fun D hD => lc_it (walk_tup (K := K) (a := a) (xs := xs)) (fun i => LcD K H D (out i)) (st D hD) (fun i H' hi p => grow_sqT (grow_same p.1) hq) (fun i x H' H2 hi p y => ?_) fun H' p => hd D H' hD p⟩
    obtain ⟨rfl, y⟩ := y
    exact hs D hD i x H2 y p
/-- a for over what is known to be a list -/
theorem for_sqL {K : PySem.W.Frag} {a : Addr} {xs : List V} {g : TG} {tb : TS} {D : Ends} {σ : L2.St} {H : Hp} (Pv : Nat → L2.St → Hp → Prop) (hq : SqL K H a xs) (h0 : Pv 0 σ H)
    (hl : ∀ i σ H', i ≤ xs.length → Pv i σ H' → SqL K H' a xs)
    (hs : ∀ i x σ H', xs[i]? = some x → Pv i σ H' → g x σ H' fun σ2 H2 => tb { D with nx := Pv (i + 1), ct := Pv (i + 1), bk := D.nx } σ2 H2) (hd : ∀ σ H', Pv xs.length σ H' → D.nx σ H') :
    ((∃ xs, SqL K H a xs) ∧ ForR (Itl K a) g tb D σ H) ∨ ((∃ xs, SqT K H a xs) ∧ ForR (Itt K a) g tb D σ H) := by
  refine .inl ⟨⟨xs, hq⟩, for_it (walk_list (K := K) (a := a) (xs := xs)) Pv h0 (fun i σ H' hi p => hl i σ H' hi p) (fun i x σ H' H2 hi p y => ?_) hd⟩
  obtain ⟨rfl, y⟩ := y
  exact hs i x σ H2 y p
/-- enumerate of a tuple, while tuples stay -/
theorem for_enT {K : PySem.W.Frag} {a : Addr} {xs : List V} {g : TG} {tb : TS} {D : Ends} {σ : L2.St} {H : Hp} (Pv : Nat → L2.St → Hp → Prop) (hq : SqT K H a xs) (h0 : Pv 0 σ H)
    (hl : ∀ i σ H', i ≤ xs.length → Pv i σ H' → Grow H H')
    (hs : ∀ i x σ H' T, xs[i]? = some x → Pv i σ H' → H' T = none → g (.ref T) σ (upd H' T (.tup [.int (i : Nat), x])) fun σ2 H2 => tb { D with nx := Pv (i + 1), ct := Pv (i + 1), bk := D.nx } σ2 H2) (hd : ∀ σ H', Pv xs.length σ H' → D.nx σ H') :
    ((∃ xs, SqL K H a xs) ∧ ForR (Ite K a) g tb D σ H) ∨ ((∃ xs, SqT K H a xs) ∧ ForR (IteT K a) g tb D σ H) := by
  refine .inr ⟨⟨xs, hq⟩, for_it (walk_enumT (K := K) (a := a) (xs := xs)) Pv h0 (fun i σ H' hi p => grow_sqT (hl i σ H' hi p) hq) (fun i x σ H' H2 hi p y => ?_) hd⟩
  obtain ⟨T, u, v, rfl, n, rfl, e1, e2⟩ := y
  cases e1
  exact hs i v σ H' T e2 p n
/-- no further argument -/
theorem nil_go {σ : L2.St} {H : Hp} {Q : List V → Hp → Prop} (h : Q [] H) : tNil σ H Q := h
/-- l.extend(m) -/
theorem ext_data {K : PySem.W.Frag} {H : Hp} {l m : Addr} {ds es : List PyData} {Q : VK} (hl : LD K H l ds) (hm : LD K H m es) (z : ds.length + es.length ≤ sizeLine) (f : firmAll ds = true) (g : firmAll es = true)
    (q : ∀ o, LD K (upd H l o) l (ds ++ es) → Grow H (upd H l o) → Q .non (upd H l o)) : rExtend (.ref l) [.ref m] H Q := by
  obtain ⟨vs, h1, h2⟩ := hl
  obtain ⟨us, k1, k2⟩ := hm
  have gr : Grow H (upd H l (.lst (vs ++ us))) := grow_lst h1
  exact ⟨l, m, vs, us, rfl, rfl, h1, k1, by rw [dpAll_len h2, dpAll_len k2]; exact z, q _ ⟨_, upd_same, dpAll_app (dpAll_grow gr _ _ f h2) (dpAll_grow gr _ _ g k2)⟩ gr⟩
/-- l.append(y) -/
theorem app_data {K : PySem.W.Frag} {H : Hp} {l : Addr} {ds : List PyData} {y : V} {d : PyData} {Q : VK} (hl : LD K H l ds) (hy : Dp K H y d) (z : ds.length < sizeLine) (f : firmAll ds = true) (g : firm d = true)
    (q : ∀ o, LD K (upd H l o) l (ds ++ [d]) → Grow H (upd H l o) → Q .non (upd H l o)) : rAppend (.ref l) [y] H Q := by
  obtain ⟨vs, h1, h2⟩ := hl
  exact ⟨l, vs, y, rfl, rfl, h1, by rw [dpAll_len h2]; exact z, q _ (LD.push h1 h2 hy f g) (grow_lst h1)⟩
theorem ld_at {K : PySem.W.Frag} {H : Hp} {l : Addr} {ds : List PyData} {i : Nat} {d : PyData} (h : LD K H l ds) (e : ds[i]? = some d) : ∃ vs v, SqL K H l vs ∧ vs[i]? = some v ∧ Dp K H v d := by
  obtain ⟨vs, h1, h2⟩ := h
  obtain ⟨v, e2, h3⟩ := dpAll_at h2 e
  exact ⟨vs, v, SqL.of h1, e2, h3⟩
/-- what is written is another object, so data lists stay -/
theorem Same.of_upd {H0 H : Hp} {l : Addr} {o : HO} (s : Same H0 H) (n : H0 l = none) : Same H0 (upd H l o) := same_upd s n
end Say

set_option Elab.async false
set_option linter.all false
set_option maxRecDepth 100000
set_option maxHeartbeats 4000000
/-! dicts of whole numbers: a comprehension over any walk; what is in -/
namespace Say
open PySem PySem.Spec PyProof.Rows L2
theorem dc_it {J : It} {n : Nat} {G : Hp → Prop} {Y : Nat → Hp → V → Hp → Prop} (w : Walk J n G Y) {g : TG} {tt : TT} {tk tv : TE} {vs : List Nat} {σ : L2.St} {H1 : Hp} {D : Addr} {Qd : Hp → Prop} (Pv : Nat → Hp → Prop) (h0 : Pv 0 (upd H1 D (.dK []))) (hG : ∀ i H, i ≤ n → Pv i H → G H)
    (hs : ∀ i x H H', i < n → Pv i H → Y i H x H' → g x (wipe σ vs) H' fun σ2 H2 => wipe σ2 vs = wipe σ vs ∧ tt σ2 H2 fun b H3 =>
      if b = true then tk σ2 H3 fun y H4 => tv σ2 H4 fun z H5 => ∃ kvs k, y = kV k ∧ H5 D = some (.dK kvs) ∧ kvs.length < sizeLine ∧ Pv (i + 1) (upd H5 D (.dK (putK kvs k z))) else Pv (i + 1) H3) (hd : ∀ H, Pv n H → Qd H) :
    ∃ W : Nat → Nat → Hp → Prop, (∃ m, W 0 m (upd H1 D (.dK []))) ∧ ∀ i m H, W i m H →
      (J.stop i H ∧ Qd H) ∨ (J.go i H ∧ ∃ Nx : Hp → Prop, (∀ H', Nx H' → ∃ m', m' < m ∧ W (i + 1) m' H') ∧ ∀ x H', J.yld i H x H' → g x (wipe σ vs) H' fun σ2 H2 => wipe σ2 vs = wipe σ vs ∧ tt σ2 H2 fun b H3 =>
        if b = true then tk σ2 H3 fun y H4 => tv σ2 H4 fun z H5 => ∃ kvs k, y = kV k ∧ H5 D = some (.dK kvs) ∧ kvs.length < sizeLine ∧ Nx (upd H5 D (.dK (putK kvs k z))) else Nx H3) := by
  refine ⟨fun i m H => m = n - i ∧ i ≤ n ∧ Pv i H, ⟨n, by simp, Nat.zero_le _, h0⟩, ?_⟩
  rintro i m H ⟨rfl, hi, p⟩
  have q := hG i H hi p
  by_cases hlt : i < n
  · exact .inr ⟨w.goes i H hlt q, Pv (i + 1), fun H' p' => ⟨n - (i + 1), by omega, rfl, hlt, p'⟩, fun x H' y => hs i x H H' hlt p (w.yields i H x H' hlt q y)⟩
  · have e : i = n := by omega
    subst e
    exact .inl ⟨w.stops H q, hd H p⟩
/-- over range(n) -/
theorem dc_range {lo : Int} {n : Nat} {g : TG} {tt : TT} {tk tv : TE} {vs : List Nat} {σ : L2.St} {H1 : Hp} {D : Addr} {Qd : Hp → Prop} (Pv : Nat → Hp → Prop) (h0 : Pv 0 (upd H1 D (.dK [])))
    (hs : ∀ i H, i < n → Pv i H → g (.int (lo + i)) (wipe σ vs) H fun σ2 H2 => wipe σ2 vs = wipe σ vs ∧ tt σ2 H2 fun b H3 =>
      if b = true then tk σ2 H3 fun y H4 => tv σ2 H4 fun z H5 => ∃ kvs k, y = kV k ∧ H5 D = some (.dK kvs) ∧ kvs.length < sizeLine ∧ Pv (i + 1) (upd H5 D (.dK (putK kvs k z))) else Pv (i + 1) H3) (hd : ∀ H, Pv n H → Qd H) :
    ∃ W : Nat → Nat → Hp → Prop, (∃ m, W 0 m (upd H1 D (.dK []))) ∧ ∀ i m H, W i m H →
      ((Itr lo n).stop i H ∧ Qd H) ∨ ((Itr lo n).go i H ∧ ∃ Nx : Hp → Prop, (∀ H', Nx H' → ∃ m', m' < m ∧ W (i + 1) m' H') ∧ ∀ x H', (Itr lo n).yld i H x H' → g x (wipe σ vs) H' fun σ2 H2 => wipe σ2 vs = wipe σ vs ∧ tt σ2 H2 fun b H3 =>
        if b = true then tk σ2 H3 fun y H4 => tv σ2 H4 fun z H5 => ∃ kvs k, y = kV k ∧ H5 D = some (.dK kvs) ∧ kvs.length < sizeLine ∧ Nx (upd H5 D (.dK (putK kvs k z))) else Nx H3) := by
  refine ⟨fun i m H => m = n - i ∧ i ≤ n ∧ Pv i H, ⟨n, by simp, Nat.zero_le _, h0⟩, ?_⟩
  rintro i m H ⟨rfl, hi, p⟩
  by_cases hlt : i < n
  · refine .inr ⟨hlt, Pv (i + 1), fun H' p' => ⟨n - (i + 1), by omega, rfl, hlt, p'⟩, fun x H' y => ?_⟩
    obtain ⟨e, y⟩ := y
    subst e y
    exact hs i _ hlt p
  · have e : i = n := by omega
    subst e
    exact .inl ⟨Nat.le_refl _, hd H p⟩
section
variable {X : Cx}
/-- y = {k: v for ..} -/
theorem ps_setDc {i : Nat} {y : Str} {py : Pos} {kx vx tg iter : Expr} {ifs : List Expr} {scope : Scope} {own : List (Str × Nat)} {pos spos : Pos} {wi : TI} {g : TG} {tt : TT} {tk tv : TE} (hc : X.calm = true) (hN : X.N.Nodup) (hy : X.N[i]? = some y) (hyl : X.env.scope.names.lookup y = some .local)
    (hsw : swapsWith (.DictComp kx vx [⟨tg, iter, ifs, 0⟩] scope pos) (some (.Name y py)) spos.line X.env = pure true) (hi : PI X tg iter wi) (ok : BlkOk X.N X.env.scope scope own)
    (hg : ∀ (s : Shared) (H : Hp) (C : Addr) (cl : List (Str × Addr)) (fp : List Addr), PG (X.blk s H scope (compEnvC scope cl C X.env) fp) tg g) (ht : ∀ (s : Shared) (H : Hp) (C : Addr) (cl : List (Str × Addr)) (fp : List Addr), PTs (X.blk s H scope (compEnvC scope cl C X.env) fp) ifs tt)
    (hk : ∀ (s : Shared) (H : Hp) (C : Addr) (cl : List (Str × Addr)) (fp : List Addr), PE (X.blk s H scope (compEnvC scope cl C X.env) fp) kx tk)
    (he : ∀ (s : Shared) (H : Hp) (C : Addr) (cl : List (Str × Addr)) (fp : List Addr), PE (X.blk s H scope (compEnvC scope cl C X.env) fp) vx tv) (hs : ∀ x, foldedSetIterable iter X.env x = pure x := by intro _; rfl) :
    PS X (.Assign [.Name y py] (.DictComp kx vx [⟨tg, iter, ifs, 0⟩] scope pos) spos) (tAsg (tDc wi g tt tk tv (own.map (·.2))) (gName i)) := by
  refine ⟨fun pins s σ H D I h => ?_⟩
  rw [exec_Assign_Name_used _ _ _ _ hsw]
  refine wpAny_bind (wpAny_standAt (wpAny_bind ?_))
  show wpAny _ X.A (do let _ ← comprehension (.DictComp kx vx [⟨tg, iter, ifs, 0⟩] scope pos) scope X.env (firstIterPos [⟨tg, iter, ifs, 0⟩] pos) newDict false (eval iter X.env) (some (assign (.Name y py) X.env))) _ _ s
  have h : tDc wi g tt tk tv (own.map (·.2)) σ H (fun x H1 => gName i x σ H1 D.nx) := h
  refine wpAny_bind (thn (dc_core (Qf := fun _ s' => SP X pins D .next s') hc hN I hi ok hg ht hk he hs h fun L C s' m H' I' q hn f => ?_) fun _ s' hq => wpAny_pure (wpAny_pure hq))
  show wpAny _ _ (assign (.Name y py) X.env (.ref L)) _ _ _
  refine wpAny_assign_Name (store_ok2 (v := V.ref L) I' hN hy (.inl hyl) rfl (fun s2 I2 ⟨a, sb, ha⟩ => ?_) (.inr hyl))
  obtain ⟨f0, f1, f2, f3, f4, f5⟩ := f
  have haC : C ≠ a := by
    rcases ha with z | z
    · rw [z]; exact f1
    · exact fun e => f4 y a z e.symm
  refine ⟨m, hn.sameBut sb haC, fun h3 sb3 => ?_⟩
  exact ⟨_, H', I2.turned (t' := s2.toks) (fun b o hb e => (sb3.2 b hb).trans e) f0 f1 f3 f4 f5, q⟩
theorem sw_trueD {kx vx : Expr} {gs : List Comprehension} {scope : Scope} {pos py : Pos} {y : Str} {l : Nat} {env : Env} (hk : env.scope.kind = .function) (hy : env.scope.names.lookup y = some .local) (hl : (py.line == pos.line) = true)
    (ha : (scope.names.any fun (n, k) => n == y && (k == .local || k == .cell)) = false) : swapsWith (.DictComp kx vx gs scope pos) (some (.Name y py)) l env = pure true := by
  have ky : env.kindOf y = some .local := hy
  have hb : env.blockKind = .function := by unfold Env.blockKind; rw [hk]; rfl
  unfold swapsWith
  simp only [hb, ky, ha, Expr.pos, hl]
  rfl
end
/-- which whole numbers are keys -/
def Keyed (kvs : List (Key × V)) (nd : List Nat) : Prop := (∀ i : Nat, (valV kvs (.inl (i : Int))).isSome = decide (i ∈ nd)) ∧ kvs.length ≤ nd.length
theorem Keyed.put {kvs : List (Key × V)} {nd : List Nat} (h : Keyed kvs nd) (i : Nat) (v : V) : Keyed (putK kvs (.inl (i : Int)) v) (nd ++ [i]) := by
  refine ⟨fun j => ?_, ?_⟩
  · rw [valV_put]
    by_cases e : j = i
    · subst e
      simp
    · have e2 : ¬ (Sum.inl (j : Int) : Key) = Sum.inl (i : Int) := fun z => e (by have := Sum.inl.inj z; omega)
      rw [if_neg e2, h.1 j]
      simp [e]
  · have := length_putK kvs (.inl (i : Int)) v
    have := h.2
    rw [List.length_append]
    simp only [List.length_cons, List.length_nil]
    omega
theorem grow_dK' {H : Hp} {p : Addr} {xs : List (Key × V)} {o : HO} (h : H p = some (.dK xs)) : Grow H (upd H p o) := grow_dK h
end Say

set_option Elab.async false
set_option linter.all false
set_option maxRecDepth 100000
set_option maxHeartbeats 4000000
/-! errors with an own __init__ of one field: made, raised -/
namespace Say
open PySem PySem.Spec PyProof.Rows L2
structure IniEnd (C a dx : Addr) (fs : List (Str × V)) (H H' : Hp) : Prop where
  obj : H' a = some (exo a C (some dx))
  dic : H' dx = some (exd dx fs)
  old : ∀ b, b ≠ a → b ≠ dx → H' b = H b
def spIni (f : Str) (C : Addr) : Sp := fun vs H Q _ => ∃ (a : Addr) (y : V), vs = [.ref a, y] ∧ H a = some (exo a C none) ∧
  ∀ (dx : Addr) (H' : Hp), H dx = none → dx ≠ a → IniEnd C a dx [(f, y)] H H' → Q .non H'
theorem ini_end {C a dx : Addr} {f : Str} {y : V} {H : Hp} (ne : dx ≠ a) : IniEnd C a dx [(f, y)] H (upd (upd H a (exo a C (some dx))) dx (exd dx [(f, y)])) :=
  ⟨by rw [upd_ne ne.symm, upd_same], upd_same, fun b na nd => by rw [upd_ne nd, upd_ne na]⟩
theorem raise_mid {Ca a dx : Addr} {fs : List (Str × V)} {H H' : Hp} (hn : H a = none) (nd : upd H a (exo a Ca none) dx = none) (ne : dx ≠ a) (I : IniEnd Ca a dx fs (upd H a (exo a Ca none)) H') :
    H dx = none ∧ Same H (upd (del H' a) dx (.xd fs)) ∧ upd (del H' a) dx (.xd fs) dx = some (.xd fs) := by
  have nd' : H dx = none := by
    rw [upd_ne ne] at nd
    exact nd
  refine ⟨nd', fun b o q => ?_, upd_same⟩
  have nb : b ≠ a := ne_of_none q hn
  have nb2 : b ≠ dx := ne_of_none q nd'
  rw [upd_ne nb2, del_ne nb, I.old b nb nb2, upd_ne nb]
  exact q
/-- the reading of raise C(v), v reckoned -/
theorem ini_go {Ca : Addr} {f : Str} {H : Hp} {v : V} {Q : XK} (k : ∀ dd H', Same H H' → H' dd = some (.xd [(f, v)]) → Q (.ref Ca) (some dd) H') :
    ([v] : List V).length ≤ 1000 ∧ ∀ a, H a = none → spIni f Ca (.ref a :: ([v] ++ [])) (upd H a (exo a Ca none))
      (fun v H2 => v = .non ∧ ∃ (d : Addr) (fs : List (Str × V)), H2 a = some (exo a Ca (some d)) ∧ H2 d = some (exd d fs) ∧ H d = none ∧ Q (.ref Ca) (some d) (upd (del H2 a) d (.xd fs))) (fun _ _ _ => False) := by
  refine ⟨Nat.le_of_ble_eq_true rfl, fun a hn => ⟨a, v, rfl, upd_same, fun dx H' nd ne I => ?_⟩⟩
  obtain ⟨n1, s1, e1⟩ := raise_mid hn nd ne I
  exact ⟨rfl, dx, _, I.obj, I.dic, n1, k dx _ s1 e1⟩
/-- enumerate, while what stood at an elder heap stays -/
theorem for_enS {K : PySem.W.Frag} {a : Addr} {xs : List V} {g : TG} {tb : TS} {D : Ends} {σ : L2.St} {H0 H : Hp} (Pv : Nat → L2.St → Hp → Prop) (hq : Sq K H0 a xs) (h0 : Pv 0 σ H)
    (hl : ∀ i σ H', i ≤ xs.length → Pv i σ H' → Same H0 H')
    (hs : ∀ i x σ H' T, xs[i]? = some x → Pv i σ H' → H' T = none → g (.ref T) σ (upd H' T (.tup [.int (i : Nat), x])) fun σ2 H2 => tb { D with nx := Pv (i + 1), ct := Pv (i + 1), bk := D.nx } σ2 H2) (hd : ∀ σ H', Pv xs.length σ H' → D.nx σ H') :
    ((∃ xs, SqL K H a xs) ∧ ForR (Ite K a) g tb D σ H) ∨ ((∃ xs, SqT K H a xs) ∧ ForR (IteT K a) g tb D σ H) := by
  have s0 := hl 0 σ H (Nat.zero_le _) h0
  have st : ∀ i x σ H' H2, i < xs.length → Pv i σ H' → YPair (fun i => some (.int (i : Nat))) (fun i => xs[i]?) i H' x H2 → g x σ H2 fun σ2 H2 => tb { D with nx := Pv (i + 1), ct := Pv (i + 1), bk := D.nx } σ2 H2 := fun i x σ H' H2 hi p y => by
    obtain ⟨T, u, v, rfl, n, rfl, e1, e2⟩ := y
    cases e1
    exact hs i v σ H' T e2 p n
  rcases hq with hq | hq
  · exact .inl ⟨⟨xs, s0.seq hq⟩, for_it (walk_enum (K := K) (a := a) (xs := xs)) Pv h0 (fun i σ H' hi p => (hl i σ H' hi p).seq hq) st hd⟩
  · exact .inr ⟨⟨xs, grow_sqT (grow_same s0) hq⟩, for_it (walk_enumT (K := K) (a := a) (xs := xs)) Pv h0 (fun i σ H' hi p => grow_sqT (grow_same (hl i σ H' hi p)) hq) st hd⟩
theorem for_sqS {K : PySem.W.Frag} {a : Addr} {xs : List V} {g : TG} {tb : TS} {D : Ends} {σ : L2.St} {H0 H : Hp} (Pv : Nat → L2.St → Hp → Prop) (hq : Sq K H0 a xs) (h0 : Pv 0 σ H)
    (hl : ∀ i σ H', i ≤ xs.length → Pv i σ H' → Same H0 H')
    (hs : ∀ i x σ H', xs[i]? = some x → Pv i σ H' → g x σ H' fun σ2 H2 => tb { D with nx := Pv (i + 1), ct := Pv (i + 1), bk := D.nx } σ2 H2) (hd : ∀ σ H', Pv xs.length σ H' → D.nx σ H') :
    ((∃ xs, SqL K H a xs) ∧ ForR (Itl K a) g tb D σ H) ∨ ((∃ xs, SqT K H a xs) ∧ ForR (Itt K a) g tb D σ H) := by
  have s0 := hl 0 σ H (Nat.zero_le _) h0
  rcases hq with hq | hq
  · refine .inl ⟨⟨xs, s0.seq hq⟩, for_it (walk_list (K := K) (a := a) (xs := xs)) Pv h0 (fun i σ H' hi p => (hl i σ H' hi p).seq hq) (fun i x σ H' H2 hi p y => ?_) hd⟩
    obtain ⟨rfl, y⟩ := y
    exact hs i x σ H2 y p
  · refine .inr ⟨⟨xs, grow_sqT (grow_same s0) hq⟩, for_it (walk_tup (K := K) (a := a) (xs := xs)) Pv h0 (fun i σ H' hi p => grow_sqT (grow_same (hl i σ H' hi p)) hq) (fun i x σ H' H2 hi p y => ?_) hd⟩
    obtain ⟨rfl, y⟩ := y
    exact hs i x σ H2 y p
end Say

set_option Elab.async false
set_option linter.all false
set_option pp.maxSteps 800
set_option pp.deepTerms false
set_option maxRecDepth 100000
set_option maxHeartbeats 4000000
/-! lambdas without parameters as values, called by a local name within the def that made them -/
namespace Say
open PySem PySem.Spec PyProof.Rows L2 LamX
/-- a lambda: what is written of it -/
structure Lm where
  ps : Arguments
  bd : Expr
  sc : Scope
abbrev lmObj (X : Cx) (b : Lm) (pm ctv : Value) (c : Addr) : Obj := PySem.W.kla_obj "<lambda>" (X.env.qual ++ "<lambda>") b.ps b.bd b.sc (cloFrom X.env.cells b.sc.names []) pm c ctv
/-- at f stands the lambda b, made in X, c its code -/
def LamO (X : Cx) (f : Addr) (b : Lm) (pm ctv : Value) (c : Addr) : HO := .ext fun h => h.get? f = some (lmObj X b pm ctv c)
theorem lamO_ok {X : Cx} {P : Program} {w : World} {H : Hp} {h : Heap} {f : Addr} {b : Lm} {pm ctv : Value} {c : Addr} (e : h.get? f = some (lmObj X b pm ctv c)) : ObjOk P w H h f (LamO X f b pm ctv c) := ⟨e, ⟨_, e⟩, fun h1 h2 p k => k _ p⟩
theorem lamO_ne {X : Cx} {f : Addr} {b : Lm} {pm ctv : Value} {c : Addr} (ps : Array Value) : LamO X f b pm ctv c ≠ .tbl ps := fun z => by
  unfold LamO at z
  cases z
/-- at f stands some lambda b made in X, its code known -/
def IsLam (X : Cx) (H : Hp) (f : Addr) (b : Lm) : Prop := ∃ (pm ctv : Value) (c : Addr), H f = some (LamO X f b pm ctv c) ∧ H c = some (CodeO c (X.env.qual ++ "<lambda>"))
theorem IsLam.ext {X : Cx} {H H' : Hp} {f : Addr} {b : Lm} (h : IsLam X H f b) (e : ExtN H H') : IsLam X H' f b := by
  obtain ⟨pm, ctv, c, h1, h2⟩ := h
  exact ⟨pm, ctv, c, e _ _ h1 lamO_ne, e _ _ h2 codeO_ne⟩
/-- the table P tells codes of the name q; no other table is spoken of -/
abbrev Tb (P : Addr) (q : Str) (H : Hp) : Prop := TabS H P q
section
variable {X : Cx} {pins : List (Addr × Obj)} {σ : L2.St} {H : Hp} {s : Shared}
def tLamV (X : Cx) (P : Addr) (b : Lm) : TE := fun _ H Q => Tb P (X.env.qual ++ "<lambda>") H ∧ ∀ (f : Addr) (H1 : Hp), H f = none → ExtN H H1 → Tb P (X.env.qual ++ "<lambda>") H1 → IsLam X H1 f b → Q (.ref f) H1
theorem made_there {P c f : Addr} {q : Str} {ps : Array Value} {b : Lm} {pm ctv : Value} {H0 : Hp} (e0 : ExtN H H0) (t0 : TabS H0 P q) (nf : H0 f = none) : ExtN H (upd H0 f (LamO X f b pm ctv c)) ∧ TabS (upd H0 f (LamO X f b pm ctv c)) P q := by
  have st : ∀ a o, H0 a = some o → upd H0 f (LamO X f b pm ctv c) a = some o := fun a o e => by
    rw [upd_ne (ne_of_none e nf)]
    exact e
  exact ⟨e0.trans (ExtN.of st), t0.ext st⟩
/-- a lambda as a value -/
theorem pe_lam {P c : Addr} {b : Lm} {pos : Pos} (TB : TabB X.base X.mg c P) (hcode : X.env.code = .ref c) (L : LamS X.env.scope b.sc) (hdef : defaultsOf b.ps X.env = ([], []) := by rfl) : PE X (.Lambda b.ps b.bd b.sc pos) (tLamV X P b) := by
  refine ⟨fun pins s σ H Q I hh => ?_⟩
  obtain ⟨hT, go⟩ := hh
  have clo := closure_ok (L.has I.ok)
  obtain ⟨ps, hP, ht, ha⟩ := id hT
  have at1 : s.heap.get? P = some { cls := .none, data := .fields ps } := I.hok P _ hP
  have bi : s.heap.BuiltinsAt X.mg P := TB.bm.keeps I.bk
  have gl := I.mod.glob.keeps I.bk
  have hd := TB.code.keeps I.bk
  have fresh : ∀ {h' : Heap} {H0 : Hp} {t : Nat}, HOk X.prog X.w H0 h' → H0 h'.objs.size = none := fun hk => hk.fresh (Nat.le_refl _)
  refine PySem.W.kla_eval hdef ?_
  cases hc : codeAmong pos ps.toList with
  | some cv =>
    obtain ⟨c', e, hco⟩ := ha pos cv hc
    cases e
    refine PySem.W.kla_makeFunctionHit (mg := X.mg) (c := c) (P := P) (ps := ps) clo I.ok.glob gl hcode hd at1 ht hc bi fun ctv h' tk hx hsz => ?_
    have I0 : Inv X pins σ H { s with heap := h', toks := tk } := I.kept fun a o e => hx a o e
    have nf : H h'.objs.size = none := I0.hok.fresh (Nat.le_refl _)
    have I1 := I0.laid (a := h'.objs.size) (o := LamO X h'.objs.size b ((X.mg "__name__").getD .none) ctv c') (t' := tk) (h' := h'.push (lmObj X b ((X.mg "__name__").getD .none) ctv c')) (fun a u e => Heap.get?_push_of_some _ e) (Nat.le_refl _) (lamO_ok (Heap.get?_push_size _ rfl))
    obtain ⟨e1, t1⟩ := made_there (X := X) (b := b) (pm := (X.mg "__name__").getD .none) (ctv := ctv) (c := c') (ps := ps) (ExtN.refl H) hT nf
    exact ⟨.ref _, _, I1, rfl, go _ _ nf e1 t1 ⟨_, _, c', upd_same, e1 _ _ hco codeO_ne⟩⟩
  | none =>
    refine PySem.W.kla_makeFunction (mg := X.mg) (c := c) (P := P) (ps := ps) clo I.ok.glob gl hcode hd at1 ht hc TB.gP bi fun c' ctv h' tk hx hge hlt hrec htb => ?_
    obtain ⟨c2, oc, vs, t, e2, hoc, hdt, hv⟩ := hrec
    cases e2
    have I0 := inv_table (q := X.env.qual ++ "<lambda>") (t' := tk) (more := #[rawInt pos.line, rawInt pos.col, .ref c']) (h' := h') I hP hx htb hge ⟨oc, vs, t, hoc, hdt, hv⟩
    have nC : H c' = none := I.hok.fresh hge
    have hE : ExtN H (upd (upd H P (.tbl (ps ++ #[rawInt pos.line, rawInt pos.col, .ref c']))) c' (CodeO c' (X.env.qual ++ "<lambda>"))) := fun a o e n => by
      have n1 : a ≠ P := fun z => by
        rw [z, hP] at e
        exact n ps (Option.some.inj e).symm
      rw [upd_ne (ne_of_none e nC), upd_ne n1]
      exact e
    have t0 : TabS (upd (upd H P (.tbl (ps ++ #[rawInt pos.line, rawInt pos.col, .ref c']))) c' (CodeO c' (X.env.qual ++ "<lambda>"))) P (X.env.qual ++ "<lambda>") := by
      have eL : (ps ++ #[rawInt pos.line, rawInt pos.col, .ref c']).toList = ps.toList ++ [rawInt pos.line, rawInt pos.col, .ref c'] := by simp
      refine ⟨_, by rw [upd_ne (ne_of_none hP nC), upd_same], by rw [eL]; exact PySem.TriplesOk_snoc _ _ _ _ ht, fun p2 cv hcv => ?_⟩
      rw [eL] at hcv
      rcases among_app _ ht hcv with z | z
      · obtain ⟨c0, z1, z2⟩ := ha p2 cv z
        exact ⟨c0, z1, hE _ _ z2 codeO_ne⟩
      · exact ⟨c', z, upd_same⟩
    have nf := I0.hok.fresh (Nat.le_refl h'.objs.size)
    have nfH : H h'.objs.size = none := by
      refine I.hok.fresh (Nat.le_trans hge (Nat.le_of_lt hlt))
    have I1 := I0.laid (a := h'.objs.size) (o := LamO X h'.objs.size b ((X.mg "__name__").getD .none) ctv c') (t' := tk) (h' := h'.push (lmObj X b ((X.mg "__name__").getD .none) ctv c')) (fun a u e => Heap.get?_push_of_some _ e) (Nat.le_refl _) (lamO_ok (Heap.get?_push_size _ rfl))
    obtain ⟨e1, t1⟩ := made_there (X := X) (b := b) (pm := (X.mg "__name__").getD .none) (ctv := ctv) (c := c') (ps := ps) hE t0 nf
    refine ⟨.ref _, _, I1, rfl, go _ _ nfH e1 t1 ⟨_, _, c', upd_same, ?_⟩⟩
    rw [upd_ne (ne_of_none upd_same nf)]
    exact upd_same
/-- what is asked of a lambda's body -/
structure LmOk (X : Cx) (k : Nat) (E : XK) (b : Lm) (tb : TE) : Prop where
  own : LamS X.env.scope b.sc
  bind : ∀ (q : Str) (cl : List (Str × Addr)) (pm cv ctv : Value), bindArgs (PySem.W.kla_fn "<lambda>" q b.ps b.bd b.sc cl pm cv ctv) ⟨[], []⟩ = pure []
  body : ∀ (A : Around) (ou : List Env) (s : Shared) (H : Hp) (f c : Addr), Room k (A.deeper (lamEnv X b.sc s.heap.objs.size f c)) → PE (lamCx X A ou s H E b.sc f c) b.bd tb
/-- x(), x a local that holds one of two lambdas -/
def tCallLam (X : Cx) (i : Nat) (b1 b2 : Lm) (t1 t2 : TE) : TE := fun σ H Q => ∃ f, σ[i]? = some (some (.ref f)) ∧ ((IsLam X H f b1 ∧ t1 σ H Q) ∨ (IsLam X H f b2 ∧ t2 σ H Q))
theorem lam_one {k : Nat} {W : WX} {E : XK} {b : Lm} {tb : TE} {f : Addr} {Q : VK} (tk : Takes X W) (hW : ∀ cls d σ H, E cls d H → W cls d σ H) (hr : Room (k + 1) X.A) (B : LmOk X k E b tb) (I : Inv X pins σ H s) (hl : IsLam X H f b) (q : tb σ H Q) :
    wpAny (model X.prog X.w) X.A (call (.ref f) []) (EP X pins σ Q) X.xe s := by
  obtain ⟨pm, ctv, c, h1, h2⟩ := hl
  have of1 : s.heap.get? f = some (lmObj X b pm ctv c) := (I.hok f _ h1).1
  obtain ⟨⟨oc, vs, t, hoc, hdc, hvc⟩, _, _⟩ := I.hok c _ h2
  have rc : codeAny (model X.prog X.w) X.A (.call (.ref f) ⟨[], []⟩) (CR (L2.CX X.prog X.w) X.stack X.prog X.w H s Q E) s := by
    refine PySem.W.kla_callFunE hr.depth of1 rfl B.own.co B.own.gen rfl ⟨c, oc, vs, t, rfl, hoc, hdc, hvc⟩ ?_
    rw [B.bind]
    refine wpAny_pure (wpAny_newFunctionEnv (fun y hy => (B.own.own y hy).2) (fun y hy => absurd hy (by simp)) (fun h₁ hns hsb => ⟨I.nolimit.fresh _ hsb, ?_⟩) B.own.kind)
    show codeAny _ _ (.expr b.bd (lamEnv X b.sc s.heap.objs.size f c)) _ _
    have kp : ∀ a o, s.heap.get? a = some o → h₁.get? a = some o := fun a o e => hsb.extBut a o (Nat.ne_of_lt (Heap.lt_size e)) (Heap.get?_push_of_some _ e)
    have J := lam_start2 (E := E) (f := f) (c' := c) (tk := s.toks + ([] : List (Str × Value)).length) I B.own I.env0 hr.hd Un.refl hns kp
    refine PySem.W.kla_codeExpr (wpAny_mono ((B.body _ _ s H f c (hr.deeper _)).run [] _ _ H Q J q) (fun v s' hq => ?_) fun e s' hq => hq)
    obtain ⟨w', H', J', rv, q⟩ := hq
    exact ⟨w', H', J'.os, J'.bare, J'.base, J'.hok, rv, q⟩
  have hx : Passes (L2.CX X.prog X.w) X E := passes_call tk hW
  refine wpAny_call (codeAny_mono rc fun r s' hq => ?_)
  cases r with
  | error e => exact hx pins σ H s e s' I hq
  | ok fl =>
    cases fl with
    | ret u => exact I.after hq
    | next => exact False.elim hq
    | brk => exact False.elim hq
    | cont => exact False.elim hq
theorem pe_callLam {k i : Nat} {a : Str} {W : WX} {E : XK} {b1 b2 : Lm} {t1 t2 : TE} {p1 p2 : Pos} (tk : Takes X W) (hW : ∀ cls d σ H, E cls d H → W cls d σ H) (hr : Room (k + 1) X.A) (B1 : LmOk X k E b1 t1) (B2 : LmOk X k E b2 t2)
    (hN : X.N[i]? = some a) (hv : Vis X.env.scope a) (hd : (a == ("__debug__" : Str)) = false := by decide) (hcd : (a == ("__classdict__" : Str)) = false := by decide) : PE X (.Call (.Name a p1) [] [] p2) (tCallLam X i b1 b2 t1 t2) := by
  refine ⟨fun pins s σ H Q I h => ?_⟩
  obtain ⟨f, hs, h⟩ := h
  refine wpAny_Call_Name_kw (thn ((pe_var (pos := p1) (i := i) hN hv hd hcd).run pins s σ H (fun v H1 => v = .ref f ∧ H1 = H) I ⟨.ref f, hs, rfl, rfl⟩) fun u s1 ⟨v, H1, I1, r1, q1⟩ => ?_)
  obtain ⟨ev, eH⟩ := q1
  subst ev
  rw [eH] at I1
  obtain rfl : u = Value.ref f := r1
  have of : ∀ {b : Lm}, IsLam X H f b → ∃ (oc : Value) (od : Option Addr) (fd : FuncData) (sl : Array (Option Value)), s1.heap.get? f = some ⟨oc, od, .func fd, sl⟩ := fun {b} hl => by
    obtain ⟨pm, ctv, c, h1, _⟩ := hl
    exact ⟨_, _, _, _, (I1.hok f _ h1).1⟩
  rcases h with ⟨hl, q⟩ | ⟨hl, q⟩
  · exact PySem.W.callWith_F0 (of hl) (lam_one tk hW hr B1 I1 hl q)
  · exact PySem.W.callWith_F0 (of hl) (lam_one tk hW hr B2 I1 hl q)
end
end Say

set_option Elab.async false
set_option linter.all false
set_option pp.maxSteps 800
set_option pp.deepTerms false
set_option maxRecDepth 100000
set_option maxHeartbeats 8000000
/-! a lambda of the def that is under way, handed to another def, which calls it -/
namespace Say
open PySem PySem.Spec PyProof.Rows L2 LamX
section
variable {X : Cx} {pins : List (Addr × Obj)} {σ : L2.St} {H : Hp} {s : Shared}
/-- the context of the def g, called from X at s -/
abbrev ZCx (X : Cx) (Ng : List Str) (qg : Str) (sg : Scope) (g : Addr) (cdg : Value) (s : Shared) (H : Hp) : Cx := cxOf C8.CX0 X.prog X.w X.K X.mg X.base Ng qg sg g cdg X.A X.stack s H C8.E0
theorem pe_actI {Ng : List Str} {qg : Str} {sg : Scope} {g : Addr} {cdg : Value} {k i : Nat} {a : Str} {pn : List (Addr × Obj)} {xe : Value → Shared → Prop} {W : WX} {E : XK} {b : Lm} {tb : TE} {p1 p2 : Pos} (I : Inv X pins σ H s) (tk : Takes ((ZCx X Ng qg sg g cdg s H).tr pn xe) W)
    (hW : ∀ cls d σ' H', E cls d H' → W cls d σ' H') (hr : Room (k + 1) (X.A.deeper (envOfC qg sg s.heap.objs.size g cdg))) (B : LmOk X k E b tb) (hN : Ng[i]? = some a) (hv : Vis sg a) (hd : (a == ("__debug__" : Str)) = false := by decide) (hcd : (a == ("__classdict__" : Str)) = false := by decide) :
    PE ((ZCx X Ng qg sg g cdg s H).tr pn xe) (.Call (.Name a p1) [] [] p2) (fun σZ HZ Q => ∃ f, σZ[i]? = some (some (.ref f)) ∧ IsLam X HZ f b ∧ tb σ HZ Q) := by
  refine ⟨fun pinsZ sZ σZ HZ Q IZ h => ?_⟩
  obtain ⟨f, hs, hl, ht⟩ := h
  refine wpAny_Call_Name_kw (thn ((pe_var (pos := p1) (i := i) hN hv hd hcd).run pinsZ sZ σZ HZ (fun v H1 => v = .ref f ∧ H1 = HZ) IZ ⟨.ref f, hs, rfl, rfl⟩) fun u s1 ⟨v, H1, I1, r1, q1⟩ => ?_)
  obtain ⟨rfl, rfl⟩ := q1
  obtain rfl : u = Value.ref f := r1
  obtain ⟨pm, ctv, c, h1, h2⟩ := hl
  have of1 : s1.heap.get? f = some (lmObj X b pm ctv c) := (I1.hok f _ h1).1
  obtain ⟨⟨oc, vs, t, hoc, hdc, hvc⟩, _, _⟩ := I1.hok c _ h2
  refine PySem.W.callWith_F0 ⟨_, _, _, _, of1⟩ ?_
  have un : Un (frs X.stack) [] H H1 s.heap s1.heap := I1.base
  have rc : codeAny (model X.prog X.w) (X.A.deeper (envOfC qg sg s.heap.objs.size g cdg)) (.call (.ref f) ⟨[], []⟩) (CR (L2.CX X.prog X.w) (envOfC qg sg s.heap.objs.size g cdg :: X.stack) X.prog X.w H1 s1 Q E) s1 := by
    refine PySem.W.kla_callFunE hr.depth of1 rfl B.own.co B.own.gen rfl ⟨c, oc, vs, t, rfl, hoc, hdc, hvc⟩ ?_
    rw [B.bind]
    refine wpAny_pure (wpAny_newFunctionEnv (fun y hy => (B.own.own y hy).2) (fun y hy => absurd hy (by simp)) (fun h₁ hns hsb => ⟨I1.nolimit.fresh _ hsb, ?_⟩) B.own.kind)
    show codeAny _ _ (.expr b.bd (lamEnv X b.sc s1.heap.objs.size f c)) _ _
    have kp : ∀ d o, s1.heap.get? d = some o → h₁.get? d = some o := fun d o e => hsb.extBut d o (Nat.ne_of_lt (Heap.lt_size e)) (Heap.get?_push_of_some _ e)
    have J : Inv (lamCx X (X.A.deeper (envOfC qg sg s.heap.objs.size g cdg)) (envOfC qg sg s.heap.objs.size g cdg :: X.stack) s1 H1 E b.sc f c) [] σ H1 { s1 with heap := h₁, toks := s1.toks + ([] : List (Str × Value)).length } :=
      lam_start2 I B.own I1.env0 hr.hd un hns kp
    refine PySem.W.kla_codeExpr (wpAny_mono ((B.body _ _ s1 H1 f c (hr.deeper _)).run [] _ _ H1 Q J ht) (fun v s' hq => ?_) fun e s' hq => hq)
    obtain ⟨w', H', J', rv, q⟩ := hq
    exact ⟨w', H', J'.os, J'.bare, J'.base, J'.hok, rv, q⟩
  have hx : Passes (L2.CX X.prog X.w) ((ZCx X Ng qg sg g cdg s H).tr pn xe) E := passes_call tk hW
  refine wpAny_call (codeAny_mono rc fun r s' hq => ?_)
  cases r with
  | error e => exact hx pinsZ σZ H1 s1 e s' I1 hq
  | ok fl =>
    cases fl with
    | ret u => exact I1.after hq
    | next => exact False.elim hq
    | brk => exact False.elim hq
    | cont => exact False.elim hq
/-- what the def makes of it: TT tells it by the lambda's own reading -/
def GivesI (X : Cx) (Ng : List Str) (x : Str) (sg : Scope) (g : Addr) (bg : List Stmt) (a : Str) (TT : (XK → Hp → VK → Prop) → Hp → VK → Prop) : Prop :=
  ∀ (cdg : Value) (f : Addr) (il : Hp → Prop) (s : Shared) (H : Hp) (Q : VK) (tl : XK → Hp → VK → Prop), (∀ H H', Same H H' → il H → il H') →
    (∀ (W : WX) (pn : List (Addr × Obj)) (xe : Value → Shared → Prop) (E : XK) (p1 p2 : Pos), Takes ((ZCx X Ng x sg g cdg s H).tr pn xe) W → (∀ cls d σ' H', E cls d H' → W cls d σ' H') →
      PE ((ZCx X Ng x sg g cdg s H).tr pn xe) (.Call (.Name a p1) [] [] p2) (fun σZ HZ Q => σZ[0]? = some (some (.ref f)) ∧ il HZ ∧ tl E HZ Q)) →
    il H → TT tl H Q → ∃ t, PSs (ZCx X Ng x sg g cdg s H).nox bg t ∧ t { nx := fun _ H' => Q .non H', rt := Q } (L2.start Ng [.ref f]) H
def tGiv {ι : Type} (X : Cx) (bs : ι → Lm) (tb : ι → XK → TE) (TT : (XK → Hp → VK → Prop) → Hp → VK → Prop) (te : TE) : TE := fun σ H Q => te σ H fun v H1 => ∃ f j, v = .ref f ∧ IsLam X H1 f (bs j) ∧ TT (fun E H' Q' => tb j E σ H' Q') H1 Q
theorem IsLam.same {H H' : Hp} {f : Addr} {b : Lm} (e : Same H H') (h : IsLam X H f b) : IsLam X H' f b := by
  obtain ⟨pm, ctv, c, h1, h2⟩ := h
  exact ⟨pm, ctv, c, e _ _ h1, e _ _ h2⟩
/-- x(e), e a lambda of X -/
theorem pe_giv {ι : Type} {bs : ι → Lm} {tb : ι → XK → TE} {TT : (XK → Hp → VK → Prop) → Hp → VK → Prop} {x a : Str} {g : Addr} {k : Nat} {pg : Arguments} {bg : List Stmt} {sg : Scope} {dvs : List V} {kws : List (Str × V)} {fd : FuncData} {Ng : List Str} {e : Expr} {te : TE} {p pos : Pos}
    (F : FunD X.K x x pg bg sg dvs kws g fd) (hb : L2.Binds X.K fd [a] []) (Sg : FnScope Ng [a] sg) (hNg : Ng[0]? = some a) (hva : Vis sg a) (hG : GivesI X Ng x sg g bg a TT) (hr : Room (k + 2) X.A) (hg : Gl X x) (hm : X.mg x = some (.ref g))
    (hB : ∀ j E, LmOk X k E (bs j) (tb j E)) (he : PE X e te) (hdb : (x == ("__debug__" : Str)) = false := by decide) (hd : (a == ("__debug__" : Str)) = false := by decide) (hcd : (a == ("__classdict__" : Str)) = false := by decide)
    (hst : starEach [e] X.env = (false, eval e X.env) :: starEach [] X.env := by rfl) : PE X (.Call (.Name x p) [e] [] pos) (tGiv X bs tb TT te) := by
  have hk := F.kp
  obtain ⟨oc, od, dV, kV, doc, pm, an, cdv, ct, osl, rfl, lk, hcg, _, _⟩ := F.ex
  refine ⟨fun pins s σ H Q I h => ?_⟩
  refine wpAny_Call_Name_kw (ld_glob I hg hm ?_ hdb)
  refine PySem.W.callWith_K (h₀ := X.base) I.ok.mod.kin hk ?_ hst (by rfl)
  rw [hst]
  show wpAny _ _ (spliced ((false, eval e X.env) :: backTo pos (starEach [] X.env))) _ _ s
  refine Calls.spliced_cons (thn (he.run pins s σ H _ I h) fun u s' hh => ?_)
  obtain ⟨v, H1, I1, rv, f, j, ev, hl, tt⟩ := hh
  subst ev
  obtain rfl : u = Value.ref f := rv
  refine Calls.spliced_nil ⟨I1.kIn, ?_⟩
  have rc : codeAny (model X.prog X.w) X.A (.call (.ref g) ⟨[.ref f], []⟩) (CR C8.CX0 X.stack X.prog X.w H1 s' Q C8.E0) s' := by
    refine run_ofS (N := Ng) (ps := [a]) (us := [.ref f]) (vs := [.ref f]) lk hcg Sg hr I1.env0 (hb s' [.ref f] I1.kIn rfl) (.cons rfl .nil) rfl fun hr' => ?_
    have act : ∀ (W : WX) (pn : List (Addr × Obj)) (xe : Value → Shared → Prop) (E : XK) (p1 p2 : Pos), Takes ((ZCx X Ng x sg g cdv s' H1).tr pn xe) W → (∀ cls d σ' H', E cls d H' → W cls d σ' H') →
        PE ((ZCx X Ng x sg g cdv s' H1).tr pn xe) (.Call (.Name a p1) [] [] p2) (fun σZ HZ Q => σZ[0]? = some (some (.ref f)) ∧ IsLam X HZ f (bs j) ∧ tb j E σ HZ Q) := fun W pn xe E p1 p2 tk hW =>
      ⟨fun pinsZ sZ σZ HZ QZ IZ hZ => (pe_actI (i := 0) I1 tk hW hr' (hB j E) hNg hva hd hcd).run pinsZ sZ σZ HZ QZ IZ ⟨f, hZ.1, hZ.2.1, hZ.2.2⟩⟩
    obtain ⟨t', ht', hq'⟩ := hG cdv f (fun H => IsLam X H f (bs j)) s' H1 Q (fun E H' Q' => tb j E σ H' Q') (fun H H' e z => z.same e) act hl tt
    exact ⟨t', ht'.nox, hq'⟩
  refine wpAny_call (codeAny_mono rc fun r s2 hq => ?_)
  cases r with
  | error e => exact (show False from hq).elim
  | ok fl =>
    cases fl with
    | ret u => exact I1.after hq
    | next => exact False.elim hq
    | brk => exact False.elim hq
    | cont => exact False.elim hq
end
end Say

set_option Elab.async false
set_option linter.all false
set_option pp.maxSteps 800
set_option pp.deepTerms false
set_option maxRecDepth 100000
set_option maxHeartbeats 8000000
/-! what several laws share: sources of draws, what stays but them, repr of data, calls by keywords alone, the way in with a table of codes -/
namespace Say
open PySem PySem.Spec PyProof.Rows L2 LamX
theorem same_trans {H H1 H2 : Hp} (a : Same H H1) (b : Same H1 H2) : Same H H2 := fun x o h => b x o (a x o h)
theorem same_refl (H : Hp) : Same H H := fun _ _ h => h
/-- a source of draws: three whole numbers -/
def BoxAt (H : Hp) (p : Addr) : Prop := ∃ x y z : Int, H p = some (.lst [.int x, .int y, .int z])
/-! ### what stays when only tables grow -/
theorem rd_ext {H H' : Hp} {a : Addr} {o : HO} (e : ExtN H H') (n : ∀ ps, o ≠ .tbl ps) (h : Rd H a o) : Rd H' a o := by
  rcases h with h | ⟨ob, h⟩
  · exact .inl (e _ _ h n)
  · exact .inr ⟨ob, e _ _ h fun ps z => by cases z⟩
theorem sqL_ext {K : PySem.W.Frag} {H H' : Hp} {a : Addr} {xs : List V} (e : ExtN H H') (h : SqL K H a xs) : SqL K H' a xs := h.elim (fun z => .inl (rd_ext e (fun ps z => by cases z) z)) .inr
theorem sqT_ext {K : PySem.W.Frag} {H H' : Hp} {a : Addr} {xs : List V} (e : ExtN H H') (h : SqT K H a xs) : SqT K H' a xs := h.elim (fun z => .inl (rd_ext e (fun ps z => by cases z) z)) .inr
mutual
theorem dp_ext {K : PySem.W.Frag} {H H' : Hp} (s : ExtN H H') : ∀ (d : PyData) (v : V), Dp K H v d → Dp K H' v d
  | .none, _, h => by cases h; exact .non
  | .bool b, _, h => by cases h; exact .bl b
  | .int i, _, h => by cases h; exact .int i
  | .str x, _, h => by cases h; exact .str x
  | .list ds, _, h => by
    cases h with
    | lst hs ha => exact .lst (sqL_ext s hs) (dpAll_ext s ds _ ha)
  | .tuple ds, _, h => by
    cases h with
    | tup hs ha => exact .tup (sqT_ext s hs) (dpAll_ext s ds _ ha)
  | .dict _, _, h => by cases h
theorem dpAll_ext {K : PySem.W.Frag} {H H' : Hp} (s : ExtN H H') : ∀ (ds : List PyData) (vs : List V), DpAll K H vs ds → DpAll K H' vs ds
  | [], _, h => by cases h; exact .nil
  | d :: ds, _, h => by
    cases h with
    | cons h1 h2 => exact .cons (dp_ext s d _ h1) (dpAll_ext s ds _ h2)
end
theorem ext_same {H H' : Hp} (s : Same H H') : ExtN H H' := ExtN.of s
theorem cl_yes {K : PySem.W.Frag} {Wout : WX} {D : Ends} {q : Say.Cl} {r : List Say.Cl} {cls : Value} {d : Option Addr} {σ : L2.St} {H : Hp} (h : PySem.W.exmOne K cls q.c = some true)
    (w : ∀ a, H a = none → q.ts a cls d (q.ends D) (q.on a σ) H) : wCl K Wout D (q :: r) cls d σ H := ⟨true, h, fun _ => w, (fun z => nomatch z)⟩
/-- a def's promise, its code's address known -/
theorem FunD_okc {P : Program} {w : World} {K : PySem.W.Frag} {mg : Str → Option Value} {base : Heap} {x qual : Str} {params : Arguments} {body : List Stmt} {scope : Scope} {dvs : List V} {kws : List (Str × V)} {p : Str × Option Str} {fd : FuncData} {CX : CXT} {N ps : List Str} {k : Nat} {sp : Sp}
    (F : FunD K x qual params body scope dvs kws (He.fAd K p) fd) (S : FnScope N ps scope) (len : ∀ vs H Q E, sp vs H Q E → vs.length = ps.length)
    (hbody : ∀ (A : Around) (outer : List Env) (s : Shared) (H : Hp) (vs : List V) (Q : VK) (E : XK), Room k (A.deeper (envOfC qual scope s.heap.objs.size (He.fAd K p) (.ref (He.codeOf K p)))) → sp vs H Q E →
      ∃ t, PSs (cxOf CX P w K mg base N qual scope (He.fAd K p) (.ref (He.codeOf K p)) A outer s H E) body t ∧ t { nx := fun _ H' => Q .non H', rt := Q } (start N vs) H) : FnOk P w K mg base CX (k + 1) (He.fAd K p) fd ps sp := by
  obtain ⟨oc, od, dV, kV, doc, pm, an, cdv, ct, osl, rfl, lk, hcd, _, _⟩ := F.ex
  obtain ⟨c, rfl⟩ := He.codeIn_ref hcd
  have e := He.codeOf_eq lk (c := c) rfl
  rw [e] at hbody
  exact fn_of lk hcd S len fun A outer s H vs Q E hr hsp => hbody A outer s H vs Q E hr hsp
theorem lk_at {v : V} : List.lookup ("at" : Str) [(("at" : Str), v)] = some v := by simp [List.lookup]
theorem tab_upd {H : Hp} {P l : Addr} {q : Str} {xs ys : List V} (h : TabS H P q) (hl : H l = some (.lst xs)) : TabS (upd H l (.lst ys)) P q := by
  obtain ⟨ps, hP, ht, ha⟩ := h
  refine ⟨ps, ?_, ht, fun p cv hc => ?_⟩
  · rw [upd_ne (fun z => by rw [z, hl] at hP; cases hP)]
    exact hP
  · obtain ⟨c, e, ec⟩ := ha p cv hc
    refine ⟨c, e, ?_⟩
    rw [upd_ne (fun z => by rw [z, hl] at ec; unfold CodeO at ec; cases ec)]
    exact ec
theorem isLam_upd {X : Cx} {H : Hp} {f l : Addr} {b : Lm} {xs ys : List V} (h : IsLam X H f b) (hl : H l = some (.lst xs)) : IsLam X (upd H l (.lst ys)) f b := by
  obtain ⟨pm, ctv, c, h1, h2⟩ := h
  refine ⟨pm, ctv, c, ?_, ?_⟩
  · rw [upd_ne (fun z => by rw [z, hl] at h1; unfold LamO at h1; cases h1)]
    exact h1
  · rw [upd_ne (fun z => by rw [z, hl] at h2; unfold CodeO at h2; cases h2)]
    exact h2
def rLstO (K : PySem.W.Frag) : List V → Hp → VK → Prop := fun xs H Q => ∃ p ys, xs = [.ref p] ∧ (SqL K H p ys ∨ SqT K H p ys) ∧ ∀ l, H l = none → Q (.ref l) (upd H l (.lst ys))
/-- [.. for x in xs], what is held told freely -/
theorem lc_sqP {K : PySem.W.Frag} {a : Addr} {xs : List V} {g : TG} {tt : TT} {te : TE} {vs : List Nat} {σ : L2.St} {H : Hp} {Qd : Addr → Hp → Prop} (Pv : Addr → Nat → Hp → Prop) (hq : Sq K H a xs) (h0 : ∀ D, H D = none → Pv D 0 (upd H D (.lst [])))
    (hk : ∀ D i H', Pv D i H' → Same H H')
    (hs : ∀ D, H D = none → ∀ i x H', xs[i]? = some x → Pv D i H' → g x (wipe σ vs) H' fun σ2 H2 => wipe σ2 vs = wipe σ vs ∧ tt σ2 H2 fun b H3 =>
      if b = true then te σ2 H3 fun y H4 => ∃ acc, H4 D = some (.lst acc) ∧ acc.length < sizeLine ∧ Pv D (i + 1) (upd H4 D (.lst (acc ++ [y]))) else Pv D (i + 1) H3)
    (hd : ∀ D H', H D = none → Pv D xs.length H' → Qd D H') :
    ((∃ xs, SqL K H a xs) ∧ ∀ D, H D = none → LcR (Itl K a) g tt te vs σ H D (Qd D)) ∨ ((∃ xs, SqT K H a xs) ∧ ∀ D, H D = none → LcR (Itt K a) g tt te vs σ H D (Qd D)) := by
  rcases hq with hq | hq
  · refine .inl ⟨⟨xs, hq⟩, fun D hD => lc_it (walk_list (K := K) (a := a) (xs := xs)) (Pv D) (h0 D hD) (fun i H' hi p => (hk D i H' p).seq hq) (fun i x H' H2 hi p y => ?_) fun H' p => hd D H' hD p⟩
    obtain ⟨rfl, y⟩ := y
    exact hs D hD i x H2 y p
  · refine .inr ⟨⟨xs, hq⟩, fun D hD => lc_it (walk_tup (K := K) (a := a) (xs := xs)) (Pv D) (h0 D hD) (fun i H' hi p => grow_sqT (grow_same (hk D i H' p)) hq) (fun i x H' H2 hi p y => ?_) fun H' p => hd D H' hD p⟩
    obtain ⟨rfl, y⟩ := y
    exact hs D hD i x H2 y p
/-- everything but the box stays -/
def But (p : Addr) (H H' : Hp) : Prop := ∀ b o, H b = some o → b ≠ p → H' b = some o
theorem But.refl {p : Addr} {H : Hp} : But p H H := fun _ _ h _ => h
theorem But.trans {p : Addr} {H H1 H2 : Hp} (a : But p H H1) (b : But p H1 H2) : But p H H2 := fun x o h n => b x o (a x o h n) n
theorem But.of {p : Addr} {H H' : Hp} (s : Same H H') : But p H H' := fun x o h _ => s x o h
theorem But.eq {p : Addr} {H H' : Hp} (e : ∀ b, b ≠ p → H' b = H b) : But p H H' := fun x o h n => (e x n).trans h
theorem BoxAt.same {p : Addr} {H H' : Hp} (h : BoxAt H p) (s : Same H H') : BoxAt H' p := by
  obtain ⟨x, y, z, h⟩ := h
  exact ⟨x, y, z, s _ _ h⟩
theorem BoxAt.ne {p a : Addr} {H : Hp} (h : BoxAt H p) (n : H a = none) : a ≠ p := by
  obtain ⟨x, y, z, h⟩ := h
  exact fun e => by rw [e, h] at n; cases n
/-! ### repr of data, nothing else under way -/
def rRepr (K : PySem.W.Frag) : List V → Hp → VK → Prop := fun xs H Q => ∃ v d, xs = [v] ∧ Dp K H v d ∧ (v = .non ∨ (∃ b, v = .bl b) ∨ ∃ a, v = .ref a) ∧ d.showable = true ∧ d.hasDict = false ∧ d.depth ≤ 60 ∧ d.shown.length ≤ sizeLine ∧ Q (.str d.shown) H
theorem call_reprD {X : Cx} (hg : X.A.guards = some []) (hu : X.A.units + 65 < cLine) : CallR X (.builtin "repr") (rRepr X.K) := by
  intro pins s σ H xs us Q I r h
  obtain ⟨v, d, rfl, hd, hv, h1, h2, h3, h4, q⟩ := h
  obtain ⟨u, rfl, rx⟩ := vals1 r
  rcases hv with rfl | ⟨b, rfl⟩ | ⟨a, rfl⟩
  · cases hd
    cases rx
    exact PySem.P.repr_of_none ⟨.str _, H, I.tok _, ⟨_, rfl⟩, q⟩
  · cases hd
    cases rx
    exact PySem.P.repr_of_bool ⟨.str _, H, I.tok _, ⟨_, rfl⟩, q⟩
  · obtain ⟨as, hr⟩ := Dp.reads I d _ _ hd rx
    cases rx
    exact repr_of_reads' hr h1 (fun z => by rw [h2] at z; cases z) hg (by omega) (fun _ _ z => z) (fun h' u tk hk => ⟨.str _, H, I.kept hk, ⟨_, rfl⟩, q⟩) h4
/-! ### calls by keywords alone -/
section
variable {X : Cx} {CX : CXT} {k : Nat} {f : Addr} {fd : FuncData} {ps ks : List Str} {sp : Sp} {E : XK} {x : Str} {p pos : Pos} {kws : List Keyword} {tk : TA} {g : List Value → List Value → List Value} {gV : List V → List V → List V}
theorem pe_callK0 (F : FnOk X.prog X.w X.K X.mg X.base CX k f fd ps sp) (hr : Room k X.A) (hg : Gl X x) (hm : X.mg x = some (.ref f)) (hk : PySem.W.keepIn X.K (.ref f) = true) (hb : KBinds X.K fd ps ks g gV) (hx : Passes CX X E)
    (hkw : PK X kws tk) (hall : (backToKw pos (keywordEach kws X.env)).all (·.1.isSome) = true := by rfl) (hks : (backToKw pos (keywordEach kws X.env)).filterMap (·.1) = ks := by rfl)
    (hdb : (x == ("__debug__" : Str)) = false := by decide)
    (hpl : ((backTo pos (starEach [] X.env)).any (·.1) || (backToKw pos (keywordEach kws X.env)).any (·.1.isNone)) = false := by rfl) :
    PE X (.Call (.Name x p) [] kws pos) (tCallK sp gV E tNil tk) := by
  refine ⟨fun pins s σ H Q I h => ?_⟩
  refine wpAny_Call_Name_kw (ld_glob I hg hm ?_ hdb)
  refine PySem.W.callWith_KW0 (h₀ := X.base) I.ok.mod.kin hk hall ?_ hpl
  refine thn (hkw.run pos pins s σ H _ I h) fun ws s2 ⟨zs, H2, I2, rz, q2⟩ => ⟨I2.kIn, ?_⟩
  rw [hks]
  exact run_fnk F hr hb hx I2 .nil rz q2
end
/-- one value by its name -/
def g1 {α : Type} : List α → List α → List α
  | [], [a] => [a]
  | _, _ => []
/-- two values by their names, turned round -/
def g2 {α : Type} : List α → List α → List α
  | [], [a, b] => [b, a]
  | _, _ => []
theorem g1_rel {vs : List V} {us : List Value} {zs : List V} {ws : List Value} (h1 : Vals vs us) (h2 : Vals zs ws) : Vals (g1 vs zs) (g1 us ws) := by
  cases h1 with
  | cons _ _ => exact .nil
  | nil => cases h2 with
    | nil => exact .nil
    | cons r1 r2 => cases r2 with
      | nil => exact .cons r1 .nil
      | cons _ _ => exact .nil
theorem g2_rel {vs : List V} {us : List Value} {zs : List V} {ws : List Value} (h1 : Vals vs us) (h2 : Vals zs ws) : Vals (g2 vs zs) (g2 us ws) := by
  cases h1 with
  | cons _ _ => exact .nil
  | nil => cases h2 with
    | nil => exact .nil
    | cons r1 r2 => cases r2 with
      | nil => exact .nil
      | cons r2 r3 => cases r3 with
        | nil => exact .cons r2 (.cons r1 .nil)
        | cons _ _ => exact .nil
/-! ### data held apart from the lists that still grow -/
theorem del_up {H : Hp} {D : Addr} {o : HO} : del (upd H D o) D = del H D := by
  funext b
  by_cases e : b = D
  · rw [e]
    unfold del
    rw [if_pos rfl, if_pos rfl]
  · rw [del_ne e, del_ne e, upd_ne e]
theorem del_le {H : Hp} {D : Addr} : Same (del H D) H := fun b o h => by
  by_cases e : b = D
  · rw [e] at h
    unfold del at h
    rw [if_pos rfl] at h
    cases h
  · rwa [del_ne e] at h
theorem del_mono {H H' : Hp} {D : Addr} (s : Same H H') : Same (del H D) (del H' D) := fun b o h => by
  by_cases e : b = D
  · rw [e] at h
    unfold del at h
    rw [if_pos rfl] at h
    cases h
  · rw [del_ne e] at h ⊢
    exact s _ _ h
theorem del_but {H H' : Hp} {p : Addr} (s : But p H H') : Same (del H p) (del H' p) := fun b o h => by
  by_cases e : b = p
  · rw [e] at h
    unfold del at h
    rw [if_pos rfl] at h
    cases h
  · rw [del_ne e] at h ⊢
    exact s _ _ h e
theorem del_new {H : Hp} {D : Addr} (n : H D = none) : Same H (del H D) := fun b o h => by rwa [del_ne (ne_of_none h n)]
/-- a growing list of data -/
def LX (K : PySem.W.Frag) (H : Hp) (D : Addr) (ds : List PyData) : Prop := ∃ vs, H D = some (.lst vs) ∧ DpAll K (del H D) vs ds
theorem LX.new {K : PySem.W.Frag} {H : Hp} {D : Addr} : LX K (upd H D (.lst [])) D [] := ⟨[], upd_same, .nil⟩
theorem LX.same {K : PySem.W.Frag} {H H' : Hp} {D : Addr} {ds : List PyData} (h : LX K H D ds) (s : Same H H') : LX K H' D ds := by
  obtain ⟨vs, h1, h2⟩ := h
  exact ⟨vs, s _ _ h1, dpAll_mono (del_mono s) _ _ h2⟩
theorem LX.push {K : PySem.W.Frag} {H : Hp} {D : Addr} {vs : List V} {ds : List PyData} {y : V} {d : PyData} (h2 : DpAll K (del H D) vs ds) (hy : Dp K (del H D) y d) : LX K (upd H D (.lst (vs ++ [y]))) D (ds ++ [d]) :=
  ⟨_, upd_same, by rw [del_up]; exact dpAll_app h2 (.cons hy .nil)⟩
theorem LX.dp {K : PySem.W.Frag} {H : Hp} {D : Addr} {ds : List PyData} (h : LX K H D ds) : Dp K H (.ref D) (.list ds) := by
  obtain ⟨vs, h1, h2⟩ := h
  exact .lst (SqL.of h1) (dpAll_mono del_le _ _ h2)
/-- .. for i, x in enumerate(xs) -/
theorem lc_enP {K : PySem.W.Frag} {a : Addr} {xs : List V} {g : TG} {tt : TT} {te : TE} {vs : List Nat} {σ : L2.St} {H : Hp} {Qd : Addr → Hp → Prop} (Pv : Addr → Nat → Hp → Prop) (hq : SqL K H a xs) (h0 : ∀ D, H D = none → Pv D 0 (upd H D (.lst [])))
    (hk : ∀ D i H', Pv D i H' → Same H H')
    (hs : ∀ D, H D = none → ∀ i x H' T, xs[i]? = some x → Pv D i H' → H' T = none → g (.ref T) (wipe σ vs) (upd H' T (.tup [.int (i : Nat), x])) fun σ2 H2 => wipe σ2 vs = wipe σ vs ∧ tt σ2 H2 fun b H3 =>
      if b = true then te σ2 H3 fun y H4 => ∃ acc, H4 D = some (.lst acc) ∧ acc.length < sizeLine ∧ Pv D (i + 1) (upd H4 D (.lst (acc ++ [y]))) else Pv D (i + 1) H3)
    (hd : ∀ D H', H D = none → Pv D xs.length H' → Qd D H') :
    ((∃ xs, SqL K H a xs) ∧ ∀ D, H D = none → LcR (Ite K a) g tt te vs σ H D (Qd D)) ∨ ((∃ xs, SqT K H a xs) ∧ ∀ D, H D = none → LcR (IteT K a) g tt te vs σ H D (Qd D)) := by
  refine .inl ⟨⟨xs, hq⟩, fun D hD => lc_it (walk_enum (K := K) (a := a) (xs := xs)) (Pv D) (h0 D hD) (fun i H' hi p => (hk D i H' p).seq hq) (fun i x H' H2 hi p y => ?_) fun H' p => hd D H' hD p⟩
  obtain ⟨T, u, v, rfl, n, rfl, e1, e2⟩ := y
  cases e1
  exact hs D hD i v H' T e2 p n
/-! ### what an iteration keeps -/
theorem ext_but {H H1 H2 : Hp} {p : Addr} (e : LamX.ExtN H H1) (np : H p = none) (b : But p H1 H2) : LamX.ExtN H H2 := fun x o h n => b x o (e x o h n) (ne_of_none h np)
theorem tab_but {H H' : Hp} {P p : Addr} {q : Str} (h : LamX.TabS H P q) (hB : BoxAt H p) (b : But p H H') : LamX.TabS H' P q := by
  obtain ⟨x, y, z, hp⟩ := hB
  obtain ⟨ps, hP, ht, ha⟩ := h
  refine ⟨ps, b _ _ hP (fun z => by rw [z, hp] at hP; cases hP), ht, fun pos cv hc => ?_⟩
  obtain ⟨c, e, ec⟩ := ha pos cv hc
  refine ⟨c, e, b _ _ ec fun z => ?_⟩
  rw [z, hp] at ec
  unfold LamX.CodeO at ec
  cases ec
theorem BoxAt.ext {p : Addr} {H H' : Hp} (h : BoxAt H p) (s : LamX.ExtN H H') : BoxAt H' p := by
  obtain ⟨x, y, z, h⟩ := h
  exact ⟨x, y, z, s _ _ h fun ps e => by cases e⟩
theorem dpAll_take {K : PySem.W.Frag} {H : Hp} : ∀ {vs : List V} {ds : List PyData} (j : Nat), DpAll K H vs ds → DpAll K H (vs.take j) (ds.take j)
  | _, _, 0, _ => .nil
  | _, _, j + 1, h => by
    cases h with
    | nil => exact .nil
    | cons h1 h2 => exact .cons h1 (dpAll_take j h2)
theorem dpAll_drop {K : PySem.W.Frag} {H : Hp} : ∀ {vs : List V} {ds : List PyData} (j : Nat), DpAll K H vs ds → DpAll K H (vs.drop j) (ds.drop j)
  | _, _, 0, h => h
  | _, _, j + 1, h => by
    cases h with
    | nil => exact .nil
    | cons h1 h2 => exact dpAll_drop j h2
theorem cut_to {xs : List V} {j : Nat} (h : j ≤ xs.length) : cutV xs none (some (j : Int)) = xs.take j := by
  unfold cutV
  rw [HT.sIx_nat, HT.sIx_none, Nat.min_eq_left h]
  rfl
theorem cut_from {xs : List V} {j : Nat} (h : j ≤ xs.length) : cutV xs (some (j : Int)) none = xs.drop j := by
  unfold cutV
  rw [HT.sIx_nat, HT.sIx_none, Nat.min_eq_left h]
  exact List.take_of_length_le (by rw [List.length_drop]; exact Nat.le_refl _)
/-! ### the way in: one table of codes, nothing under way -/
/-- what stands before the law is called -/
structure Before (K : PySem.W.Frag) (mg mb : Str → Option Value) (c T a : Addr) (vs : List Value) (s : Shared) : Prop where
  kin : K.In s.heap
  glob : s.heap.Ns mainGlobals mg
  blt : s.heap.Ns builtinsNs mb
  bls : ∀ x : Str, x ≠ "__name__" → mb x = bootBuiltins x
  lim : s.heap.NoLimit
  gens : s.gens = #[]
  tab : s.heap.get? T = some { cls := .none, data := .fields #[] }
  nk : K.lookup T = none
  code : PySem.W.CodeHd s.heap c T
  main : ∃ (bm : Addr) (ob : Obj), mg "__builtins__" = some (.ref bm) ∧ bm ≠ builtinsNs ∧ s.heap.get? bm = some ob ∧ ob.cls = .type "module" ∧ ob.dict = some builtinsNs ∧ ob.data = .plain
  lst : s.heap.get? a = some { cls := .type "list", data := .seq vs.toArray }
theorem Before.apart {K : PySem.W.Frag} {mg mb : Str → Option Value} {c T a : Addr} {vs : List Value} {s : Shared} (B : Before K mg mb c T a vs s) : a ≠ T := fun z => by
  have q := B.tab
  rw [← z, B.lst] at q
  have e : Data.seq vs.toArray _ = Data.fields #[] := congrArg Obj.data (Option.some.inj q)
  cases e
/-- what of the heap is told: the table, and the script if the head does not know it -/
def told0 (K : PySem.W.Frag) (T a : Addr) (vs : List Value) (ns : List Int) : Hp := fun b =>
  if b = T then some (.tbl #[]) else if b = a ∧ K.lookup a = none then some (.frz { cls := .type "list", data := .seq vs.toArray } (.lst (ns.map V.int))) else none
section
variable {P : Program} {w : World} {K : PySem.W.Frag} {mg mb : Str → Option Value} {c T a : Addr} {vs : List Value} {ns : List Int} {s : Shared}
theorem told0_T : told0 K T a vs ns T = some (.tbl #[]) := if_pos rfl
theorem told0_off {b : Addr} (h1 : b ≠ T) (h2 : b ≠ a) : told0 K T a vs ns b = none := by
  unfold told0
  rw [if_neg h1, if_neg (fun z => h2 z.1)]
theorem told0_a (h : a ≠ T) (k : K.lookup a = none) : told0 K T a vs ns a = some (.frz { cls := .type "list", data := .seq vs.toArray } (.lst (ns.map V.int))) := by
  unfold told0
  rw [if_neg h, if_pos ⟨rfl, k⟩]
theorem told0_k (h : a ≠ T) (k : K.lookup a ≠ none) : told0 K T a vs ns a = none := by
  unfold told0
  rw [if_neg h, if_neg (fun z => k z.2)]
theorem told0_seq (B : Before K mg mb c T a vs s) (hi : IntsAre vs ns) (hl : ns.length ≤ sizeLine) : SqL K (told0 K T a vs ns) a (ns.map V.int) := by
  by_cases k : K.lookup a = none
  · exact .inl (.inr ⟨_, told0_a B.apart k⟩)
  · cases e : K.lookup a with
    | none => exact absurd e k
    | some o =>
      have e2 := B.kin a o e
      rw [B.lst] at e2
      cases e2
      exact .inr ⟨_, vs.toArray, _, e, rfl, rfl, rfl, by rw [List.size_toArray, hi.length]; exact hl, by simpa using vals_ints hi⟩
theorem told0_ok (B : Before K mg mb c T a vs s) (hi : IntsAre vs ns) (hl : ns.length ≤ sizeLine) : HOk P w (told0 K T a vs ns) s.heap := fun b u e => by
  by_cases h1 : b = T
  · rw [h1, told0_T] at e
    cases e
    rw [h1]
    exact B.tab
  · by_cases h2 : b = a
    · by_cases k : K.lookup a = none
      · rw [h2, told0_a B.apart k] at e
        cases e
        rw [h2]
        exact ⟨B.lst, by rw [List.length_map]; exact hl, vs, _, vals_ints hi, B.lst⟩
      · rw [h2, told0_k B.apart k] at e
        cases e
    · rw [told0_off h1 h2] at e
      cases e
/-- what is no list and no empty table is told nowhere -/
theorem told0_no (B : Before K mg mb c T a vs s) {b : Addr} {o : Obj} (e : s.heap.get? b = some o) (h1 : ∀ xs n, o.data ≠ .seq xs n) (h2 : o.data ≠ .fields #[]) : told0 K T a vs ns b = none := by
  refine told0_off (fun z => ?_) (fun z => ?_)
  · rw [z, B.tab] at e
    cases e
    exact h2 rfl
  · rw [z, B.lst] at e
    cases e
    exact h1 _ _ rfl
theorem told0_kin (B : Before K mg mb c T a vs s) : K.In (hidT s.heap (told0 K T a vs ns)) := fun b o e => by
  refine hidT_get (B.kin b o e) ?_
  by_cases h1 : b = T
  · rw [h1, B.nk] at e
    cases e
  · by_cases h2 : b = a
    · rw [h2]
      exact told0_k B.apart (by rw [← h2, e]; exact fun z => by cases z)
    · exact told0_off h1 h2
theorem told0_ns (B : Before K mg mb c T a vs s) {b : Addr} {m : Str → Option Value} (h : s.heap.Ns b m) : (hidT s.heap (told0 K T a vs ns)).Ns b m := by
  obtain ⟨o, es, ep, e, d, r⟩ := h
  exact ⟨o, es, ep, hidT_get e (told0_no B e (fun xs n z => by rw [d] at z; cases z) (fun z => by rw [d] at z; cases z)), d, r⟩
theorem told0_tab (B : Before K mg mb c T a vs s) : TabB (hidT s.heap (told0 K T a vs ns)) mg c T := by
  refine ⟨?_, ?_, fun z => ?_⟩
  · obtain ⟨o, us, file, tf, flags, tg, inF, text, tt, e1, r1, r2, r3, r4, r5, r6, r7, r8, hne⟩ := B.code
    refine ⟨o, us, file, tf, flags, tg, inF, text, tt, hidT_get e1 (told0_no B e1 (fun xs n z => by rw [r2] at z; cases z) (fun z => ?_)), r1, r2, r3, r4, r5, r6, r7, r8, hne⟩
    rw [r2] at z
    cases z
    simp at r3
  · obtain ⟨bm, ob, b1, b2, b3, b4, b5, b6⟩ := B.main
    refine ⟨bm, ob, b1, b2, fun q => ?_, fun q => ?_, hidT_get b3 (told0_no B b3 (fun xs n z => by rw [b6] at z; cases z) (fun z => by rw [b6] at z; cases z)), b4, b5, b6⟩
    · obtain ⟨o, es, ep, e, hd, _⟩ := B.glob
      rw [q, e] at b3
      cases b3
      rw [hd] at b6
      cases b6
    · rw [q, B.tab] at b3
      cases b3
      cases b6
  · obtain ⟨o, es, ep, e, hd, _⟩ := B.glob
    rw [z, B.tab] at e
    cases e
    cases hd
theorem told0_env (B : Before K mg mb c T a vs s) (hi : IntsAre vs ns) (hl : ns.length ≤ sizeLine) : Env0 P w K mg (hidT s.heap (told0 K T a vs ns)) callerA [] s (told0 K T a vs ns) :=
  ⟨rfl, ⟨told0_kin B, told0_ns B B.glob, ⟨mb, told0_ns B B.blt, B.bls⟩, let ⟨mc, h1, h2⟩ := B.lim; ⟨mc, told0_ns B h1, h2⟩⟩, fun b o e => of_hidT e, Nat.le_of_eq (hidT_size _ _), trivial, fun b hb => absurd (show b ∈ ([] : List Addr) from hb) (by simp), told0_ok B hi hl, .of_eq B.gens⟩
/-- the law called here answers True -/
theorem call_here {fa : Addr} (B : Before K mg mb c T a vs s) (hi : IntsAre vs ns) (hl : ns.length ≤ sizeLine)
    (run : codeAny (model P w) callerA (.call (.ref fa) ⟨[.ref a], []⟩) (CR CX0 [] P w (told0 K T a vs ns) s (fun v _ => v = .bl true) fun _ _ _ => False) s) :
    codeAny (model P w) callerA (.call (.ref fa) ⟨[.ref a], []⟩) (fun r s' => r = .ok (.ret (.bool true)) ∧ OldK s.heap s'.heap ∧ s'.os = s.os ∧ AllBare s'.gens) s := by
  refine codeAny_mono run fun r s' h => ?_
  cases r with
  | error e => exact False.elim h
  | ok fl =>
    cases fl with
    | next => exact False.elim h
    | brk => exact False.elim h
    | cont => exact False.elim h
    | ret u =>
      obtain ⟨v, H', os, bare, un, hok', r', q⟩ := h
      have q' : v = .bl true := q
      subst q'
      obtain rfl : u = Value.bool true := r'
      have hB0 := told0_ok (P := P) (w := w) B hi hl
      have key : ∀ b o, b ≠ T → s.heap.get? b = some o → s'.heap.get? b = some o := fun b o nb e => by
        by_cases h2 : b = a ∧ K.lookup a = none
        · obtain ⟨h2, k⟩ := h2
          have h3 := told0_a (vs := vs) (ns := ns) B.apart k
          obtain ⟨e2, _⟩ := hok' a _ (un.frzs a _ _ h3)
          rw [h2, B.lst] at e
          cases e
          rw [h2]
          exact e2
        · have hn : told0 K T a vs ns b = none := by
            unfold told0
            rw [if_neg nb, if_neg h2]
          exact un.keep b o e hn (by intro z; exact absurd (show b ∈ ([] : List Addr) from z) (by simp)) (by simp)
      obtain ⟨more, hm⟩ := un.tbls T #[] told0_T
      have hm2 := hok' T _ hm
      refine ⟨rfl, ⟨fun b o e => ?_, fun b o e => ?_⟩, os, bare⟩
      · by_cases hb : b = T
        · rw [hb] at e ⊢
          rw [B.tab] at e
          cases e
          exact .inr (.inl ⟨(B.code.tab B.tab).isCodeTable, rfl, #[], more, rfl, hm2⟩)
        · exact .inl (key b o hb e)
      · by_cases hb : b = T
        · rw [hb]
          exact ⟨_, hm2⟩
        · exact ⟨o, key b o hb e⟩
end
theorem grow_but {H H' : Hp} {p : Addr} (hB : BoxAt H p) (b : But p H H') : Grow H H' := by
  obtain ⟨x, y, z, h⟩ := hB
  exact ⟨fun a xs e => b _ _ e fun q => (by rw [q, h] at e; cases e), fun a o u e => b _ _ e fun q => (by rw [q, h] at e; cases e)⟩
end Say

set_option Elab.async false
set_option linter.all false
set_option pp.maxSteps 800
set_option maxRecDepth 100000
set_option maxHeartbeats 8000000
/-! t[::-1], t a tuple -/
namespace Say
open PySem PySem.Spec PyProof.Rows L2
/-- tuple(xs) -/
def rTup (K : PySem.W.Frag) : List V → Hp → VK → Prop := fun xs H Q => ∃ p ys, xs = [.ref p] ∧ ((SqL K H p ys ∧ ∀ l, H l = none → Q (.ref l) (upd H l (.tup ys))) ∨ (SqT K H p ys ∧ Q (.ref p) H))
theorem places_back (n : Nat) : Builtin.Slice.sliceAdjust none none (-1) (n : Int) = ((n : Int) - 1, -1) ∧ Builtin.Slice.slicePlaces ((n : Int) - 1) (-1) (-1) = n := by
  refine ⟨rfl, ?_⟩
  unfold Builtin.Slice.slicePlaces
  rw [if_neg (by decide)]
  by_cases h : (n : Int) - 1 > -1
  · rw [if_pos h]
    have e : ((n : Int) - 1 - -1 - 1) / (- -1) + 1 = n := by
      rw [show (- -1 : Int) = 1 by decide, Int.ediv_one]
      omega
    rw [e]
    rfl
  · rw [if_neg h]
    show (0 : Int).toNat = n
    have : n = 0 := by omega
    subst this
    rfl
theorem fm_map {α β : Type} {f : α → Option β} {g : α → β} : ∀ {l : List α}, (∀ m ∈ l, f m = some (g m)) → l.filterMap f = l.map g
  | [], _ => rfl
  | a :: l, h => by rw [List.filterMap_cons_some (h a List.mem_cons_self), fm_map fun m hm => h m (List.mem_cons_of_mem _ hm), List.map_cons]
theorem pick_back (xs : Array Value) : (List.range xs.size).filterMap (fun (m : Nat) => xs[((xs.size : Int) - 1 + (m : Int) * (-1)).toNat]?) = xs.toList.reverse := by
  refine List.ext_getElem? fun i => ?_
  have e : (List.range xs.size).filterMap (fun (m : Nat) => xs[((xs.size : Int) - 1 + (m : Int) * (-1)).toNat]?) = (List.range xs.size).map fun (m : Nat) => xs.toList.reverse.getD m .none := by
    refine fm_map fun m hm => ?_
    have lt := List.mem_range.mp hm
    have e1 : ((xs.size : Int) - 1 + (m : Int) * (-1)).toNat = xs.size - 1 - m := by omega
    rw [e1]
    have lt2 : m < xs.toList.reverse.length := by rw [List.length_reverse, Array.length_toList]; exact lt
    show _ = some (xs.toList.reverse.getD m .none)
    rw [List.getD_eq_getElem?_getD, List.getElem?_reverse (by rw [Array.length_toList]; exact lt), Array.length_toList, Array.getElem?_toList]
    rw [Array.getElem?_eq_getElem (by omega)]
    rfl
  rw [e, List.getElem?_map]
  by_cases h : i < xs.size
  · rw [List.getElem?_range h]
    have lt2 : i < xs.toList.reverse.length := by rw [List.length_reverse, Array.length_toList]; exact h
    show some (xs.toList.reverse.getD i .none) = _
    rw [List.getD_eq_getElem?_getD, List.getElem?_eq_getElem lt2]
    rfl
  · rw [List.getElem?_eq_none (by rw [List.length_range]; omega), List.getElem?_eq_none (by rw [List.length_reverse, Array.length_toList]; omega)]
    rfl
section
variable {prog : Program} {w : World} {A : Around} {E : Value → Shared → Prop} {s : Shared}
theorem getItem_tuple_back {t sl : Addr} {items : Array Value} {vl vu vs : Value} {Q : Value → Shared → Prop} (ht : IsTup s.heap t items) (hs : s.heap.IsSliceOf sl vl vu vs) (pl : IsPart vl none) (pu : IsPart vu none) (ps : IsPart vs (some (-1)))
    (h : Q (.ref s.heap.objs.size) { s with heap := s.heap.push { cls := .type "tuple", data := .seq items.toList.reverse.toArray } }) (hsz : items.size ≤ sizeLine) : wpAny (model prog w) A (getItem (.ref t) (.ref sl)) Q E s := by
  obtain ⟨os, hos, hcs, hds⟩ := id hs
  have T : s.TypeIs (.ref sl) "slice" := ⟨os, hos, hcs⟩
  have fits : sizeOk (.seq items.toList.reverse.toArray) := by
    show items.toList.reverse.toArray.size ≤ sizeLine
    rw [List.size_toArray, List.length_reverse, Array.length_toList]
    exact hsz
  unfold getItem
  try with_reducible refine wpAny_holding ?_
  first | refine wpAny_bind (wpAny_pure ?_) | skip
  refine wpAny_bind (wpAny_sequenceKey ht.typeIs (by decide) ?_)
  refine wpAny_bind (wpAny_callSpecial?_slot (name := Str.ofString "__getitem__") ht.typeIs PyProof.Rows.slot_tuple_getitem (wpAny_call_entry PyProof.Rows.slot_tuple_getitem ht.typeIs entry_tuple_getitem ?_ (args_tuple_getitem _ _)))
  show wpAny _ _ (Builtin.Tuple.tupleItemsOf (.ref t) >>= _) _ _ s
  refine wpAny_bind (PyProof.Rows.tupleItemsOf_ ht (wpAny_bind (wpAny_typeOf T ?_)))
  rw [if_pos (by decide)]
  obtain ⟨p1, p2⟩ := places_back items.size
  refine wpAny_bind ?_
  unfold Builtin.Slice.sliceApplied Builtin.Slice.sliceFields
  refine wpAny_bind (wpAny_bind (wpAny_field hos hds (x := vl) rfl (wpAny_bind (wpAny_field hos hds (x := vu) rfl (wpAny_bind (wpAny_field hos hds (x := vs) rfl (wpAny_pure ?_)))))))
  refine wpAny_bind (HT.slicePart_ ps ?_)
  show wpAny _ _ (if ((-1 : Int) == 0) = true then _ else _) _ _ s
  rw [if_neg (by decide)]
  refine wpAny_bind (HT.slicePart_ pl (wpAny_bind (HT.slicePart_ pu (wpAny_bind (wpAny_pure ?_)))))
  show wpAny _ _ (match Builtin.Slice.sliceAdjust none none (-1) (items.size : Int) with | (lo, hi) => pure (lo, (-1 : Int), Builtin.Slice.slicePlaces lo hi (-1))) _ _ s
  rw [p1]
  show wpAny _ _ (pure ((items.size : Int) - 1, (-1 : Int), Builtin.Slice.slicePlaces ((items.size : Int) - 1) (-1) (-1))) _ _ s
  rw [p2]
  refine wpAny_pure ?_
  have no : ¬ ((((items.size : Int) - 1) == 0 && (-1 : Int) == 1 && items.size == items.size) = true) := by
    rw [show ((-1 : Int) == 1) = false from by decide, Bool.and_false, Bool.false_and]
    exact Bool.false_ne_true
  show wpAny _ _ (if (((items.size : Int) - 1) == 0 && (-1 : Int) == 1 && items.size == items.size) = true then _ else _) _ _ s
  rw [if_neg no, pick_back]
  first
    | exact wpAny_bind (m := Builtin.Tuple.tupleExact _) (wpAny_newObj_type (wpAny_pure ⟨_, rfl, wpAny_pure h⟩) fits)
    | exact wpAny_bind (m := Builtin.Tuple.tupleExact _) (wpAny_newObj_type (wpAny_bind (wpAny_pure (wpAny_pure ⟨_, rfl, wpAny_pure h⟩))) fits)
    | exact wpAny_bind (wpAny_bind (m := Builtin.Tuple.tupleExact _) (wpAny_newObj_type (wpAny_pure ⟨_, rfl, wpAny_pure h⟩) fits))
end
section
variable {X : Cx}
def tRevT (K : PySem.W.Frag) (te : TE) : TE := fun σ H Q => te σ H fun x H1 => ∃ a xs, x = .ref a ∧ SqT K H1 a xs ∧ ∀ p, H1 p = none → Q (.ref p) (upd H1 p (.tup xs.reverse))
theorem pe_revT {e : Expr} {te : TE} {k : Nat} {p1 p2 p3 pos : Pos} (he : PE X e te) : PE X (.Subscript e (.Slice none none (some (.UnaryOp .USub (.Constant (.int 1) k p1) p2)) p3) pos) (tRevT X.K te) := by
  refine ⟨fun pins s σ H Q I h => Subscript_ (thn (he.run pins s σ H _ I h) fun v s1 hh => ?_)⟩
  obtain ⟨x, H1, I1, r1, a, xs, ex, hx, q⟩ := hh
  subst ex
  cases r1
  have st : PO X (some (.UnaryOp .USub (.Constant (.int 1) k p1) p2)) (tPart (tUn (rU fun i => .int (-i)) (tC (.int 1)))) := po_some (pe_un un_neg pe_int)
  refine wpAny_Slice (thn (po_none.run pins s1 σ H1 (fun o H2 => o = none ∧ H2 = H1) I1 ⟨rfl, rfl⟩) fun vl s2 h2 => ?_)
  obtain ⟨l, H2, I2, pl, rfl, rfl⟩ := h2
  refine thn (po_none.run pins s2 σ H2 (fun o H3 => o = none ∧ H3 = H2) I2 ⟨rfl, rfl⟩) fun vu s3 h3 => ?_
  obtain ⟨u, H3, I3, pu, rfl, rfl⟩ := h3
  refine thn (st.run pins s3 σ H3 (fun o H4 => o = some (-1) ∧ H4 = H3) I3 ⟨1, rfl, -1, rfl, rfl, rfl⟩) fun vs s4 h4 => ?_
  obtain ⟨o, H4, I4, ps, rfl, rfl⟩ := h4
  have I5 : Inv X pins σ H4 { s4 with heap := s4.heap.push { cls := .type "slice", data := .fields #[vl, vu, vs] } } := I4.kept (t' := s4.toks) fun b ob q => Heap.get?_push_of_some _ q
  obtain ⟨its, r, ht, hz⟩ := I5.tuple hx
  have len := r.length
  show wpAny (model X.prog X.w) X.A (subscriptTail e (.Slice none none (some (.UnaryOp .USub (.Constant (.int 1) k p1) p2)) p3) (.ref a) (.ref s4.heap.objs.size)) (EP X pins σ Q) X.xe { s4 with heap := s4.heap.push { cls := .type "slice", data := .fields #[vl, vu, vs] } }
  refine tail_any (ops := [.ref a, .ref s4.heap.objs.size]) ht.typeIs (PyProof.Rows.slot_tuple_getitem.lookup) ?_ (by with_unfolding_all rfl)
  refine getItem_tuple_back ht (Heap.IsSliceOf.new _ vl vu vs) pl pu ps ?_ (by rw [List.size_toArray]; omega)
  rw [List.toList_toArray]
  refine ⟨.ref _, _, I5.laid (t' := s4.toks) (o := .tup xs.reverse) (fun b ob q => Heap.get?_push_of_some _ q) (Nat.le_refl _) ?_, rfl, q _ (I5.hok.fresh (Nat.le_refl _))⟩
  exact ⟨by rw [List.length_reverse]; exact hz, _, r.reverse, IsTup.new _ _⟩
end
end Say

set_option Elab.async false
set_option linter.all false
set_option pp.maxSteps 800
set_option maxRecDepth 100000
set_option maxHeartbeats 8000000
/-! sorted(xs), xs a list of unlike nested tuples, read at once -/
namespace Say
open PySem PySem.Spec PyProof.Rows L2
open PySem.W (dataLt alike)
theorem sortL_go {K : PySem.W.Frag} {β : Type} {key : β → NestedKey} {H : Hp} {Q : VK} {bs : List β} {l : Addr} {vs : List V} (hl : SqL K H l vs) (hd : DpAll K H vs (bs.map fun b => (key b).data)) (R : Ranked key bs) (nd : bs.Nodup) (few : bs.length ≤ 4000)
    (q : ∀ H' p us, Same H H' → H p = none → H' p = some (.lst us) → DpAll K H' us ((ordB (fun b => (key b).data) bs).map fun b => (key b).data) → Q (.ref p) H') : rSortLN K [.ref l] H Q := by
  obtain ⟨as, rfl, len, hda⟩ := dp_keys R.tup hd
  have lk : (bs.map key).length = as.length := by rw [List.length_map, len]
  have dk : ∀ e ∈ (bs.map key).zip as, ∃ b ∈ bs, e.1 = key b ∧ Dp K H (.ref e.2) e.1.data := fun e he => by
    obtain ⟨i, g1, g2⟩ := zip_get he
    rw [List.getElem?_map] at g1
    obtain ⟨b, gb, eb⟩ := Option.map_eq_some_iff.mp g1
    exact ⟨b, List.mem_of_getElem? gb, eb.symm, by rw [← eb]; exact hda i _ b g2 gb⟩
  have refs : ((bs.map key).zip as).map (fun e => V.ref e.2) = as.map V.ref := by
    have z := congrArg (List.map V.ref) (zip_snd lk)
    rwa [List.map_map] at z
  refine ⟨l, (bs.map key).zip as, rfl, by rw [refs]; exact hl, fun e he => ?_, fun e he e' he' => ?_, by rw [List.length_zip, List.length_map]; omega, fun M p np pm pw => ?_⟩
  · obtain ⟨b, hb, e1, e2⟩ := dk e he
    obtain ⟨k, ks, z⟩ := R.tup b hb
    exact ⟨e2, by rw [e1]; exact R.deep b hb, k, ks, by rw [e1]; exact z⟩
  · obtain ⟨b, hb, e1, _⟩ := dk e he
    obtain ⟨b', hb', e1', _⟩ := dk e' he'
    rw [e1, e1']
    exact R.alk b hb b' hb'
  have s1 := same_new (o := .lst (M.map fun e => V.ref e.2)) np
  have kz : ((bs.map key).zip as).map (·.1) = bs.map key := zip_fst lk
  have nk : (bs.map key).Nodup := List.pairwise_map.mpr (List.Pairwise.imp_of_mem (fun {a b} ha hb ne e => ne (R.inj a ha b hb e)) nd)
  have is_ : M.map (·.1) = (ordB (fun b => (key b).data) bs).map key := by
    refine sorted_is R ((pm.map (·.1)).nodup_iff.mpr (by rw [kz]; exact nk)) (fun e he => ?_) (fun b hb => ?_) pw
    · obtain ⟨b, hb, e1, _⟩ := dk e (pm.mem_iff.mp he)
      exact ⟨b, hb, e1⟩
    · rw [(pm.map (·.1)).mem_iff, kz]
      exact List.mem_map.mpr ⟨b, hb, rfl⟩
  refine q _ p _ s1 np upd_same ?_
  have z := dpAll_of (K := K) (H := upd H p (.lst (M.map fun e => V.ref e.2))) (M := M) fun e he => by
    obtain ⟨b, hb, e1, e2⟩ := dk e (pm.mem_iff.mp he)
    exact dp_mono s1 _ _ e2
  rwa [is_, List.map_map] at z
end Say

set_option Elab.async false
set_option linter.all false
set_option pp.maxSteps 800
set_option maxRecDepth 100000
set_option maxHeartbeats 8000000
/-! a comprehension whose tests may ask what the def itself holds: at each test the def's own state is told, too -/
namespace Say
open PySem PySem.Spec PyProof.Rows L2 LamX
section
variable {X : Cx} {pins : List (Addr × Obj)} {σ : L2.St} {H : Hp} {s : Shared}
/-- the block X's comprehension has at z, G -/
abbrev Bk (X : Cx) (scope : Scope) (z : Shared) (G : Hp) (C : Addr) (cl : List (Str × Addr)) (fp : List Addr) : Cx := X.blk z G scope (compEnvC scope cl C X.env) fp
theorem lc_def {el tg it : Expr} {tests : List Expr} {scope : Scope} {own : List (Str × Nat)} {pos at_ : Pos} {wi : TI} {g : TG} {tt : TT} {te : TE} {Q : VK} {use : Option (Value → Sem Unit)} {Z : Value → Shared → Prop} (calm : X.calm = true) (nd : X.N.Nodup)
    (I : Inv X pins σ H s) (pi : PI X tg it wi) (bo : BlkOk X.N X.env.scope scope own) (pg : ∀ z G C cl fp, PG (Bk X scope z G C cl fp) tg g) (pe : ∀ z G C cl fp, PE (Bk X scope z G C cl fp) el te)
    (pt : ∀ z G C cl fp, (∀ p' σ' G' z', Inv (Bk X scope z G C cl fp) p' σ' G' z' → Inv X pins σ G' z') → PTs (Bk X scope z G C cl fp) tests tt) (folded : ∀ x, foldedSetIterable it X.env x = pure x) (h : tLc wi g tt te (own.map (·.2)) σ H Q)
    (back : ∀ D C z m G, Inv X pins σ G z → Q (.ref D) G → z.heap.Ns C m → FpOk X pins G C → compPost (model X.prog X.w) X.A X.xe use Z (.ref D) C (.ok .next) z) :
    wpAny (model X.prog X.w) X.A (comprehension (.ListComp el [⟨tg, it, tests, 0⟩] scope pos) scope X.env at_ (newList []) false (eval it X.env) use) Z X.xe s := by
  have cap : ∀ y ∈ scope.names, y.2 = .free → ∃ c, X.env.cells.lookup y.1 = some c := fun y hy e => (bo.free y hy e).elim (fun k => I.ok.has _ (.inl k)) fun k => I.ok.has _ (.inr k)
  refine wpAny_comprehension_free (use := use) rfl folded (closure_ok cap) bo.kind (fun y hy e => by rw [bo.uniq y hy, e]) (thn (pi.run pins s σ H _ I h) fun u1 z1 k1 => thn k1 fun u2 z2 k2 => ?_)
  obtain ⟨a, fp, tn, J, H2, rfl, I2, T, st2, f2, q⟩ := k2
  refine wpAny_newObj_type (newEnv_comp ?_) (by show 0 ≤ sizeLine; decide)
  obtain ⟨D, hD⟩ : ∃ D, z2.heap.objs.size = D := ⟨_, rfl⟩
  rw [hD]
  obtain ⟨W, ⟨m0, w0⟩, turn⟩ := q D (I2.hok.fresh (Nat.le_of_eq hD))
  obtain ⟨z3, ez3⟩ : ∃ z3 : Shared, z3 = { z2 with heap := z2.heap.push { cls := .type "list", data := .seq ([] : List Value).toArray } } := ⟨_, rfl⟩
  have old : ∀ b o, z2.heap.get? b = some o → z3.heap.get? b = some o := fun b o e => by rw [ez3]; exact Heap.get?_push_of_some _ e
  obtain ⟨G, eG⟩ : ∃ G, G = upd H2 D (.lst []) := ⟨_, rfl⟩
  have I3 : Inv X pins σ G z3 := by
    subst eG ez3
    exact I2.laid (t' := z2.toks) (fun b o e => Heap.get?_push_of_some _ e) (Nat.le_of_eq hD) ⟨Nat.zero_le _, [], 0, .nil, by rw [← hD]; exact Heap.get?_push_size _ rfl⟩
  have lt : ∀ b ∈ fp, b < z2.heap.objs.size := fun b hb => let ⟨o, e, _⟩ := T.obj _ _ st2 b hb; Heap.lt_size e
  have f3 : ∀ b ∈ fp, FpOk X pins G b ∧ b < z3.heap.objs.size := fun b hb => by
    have l := lt b hb
    have ne : b ≠ D := fun e => absurd l (by rw [e, hD]; exact Nat.lt_irrefl _)
    refine ⟨⟨?_, (f2 b hb).2⟩, ?_⟩
    · subst eG
      exact (upd_ne ne).trans (f2 b hb).1
    · rw [ez3]
      show b < (z2.heap.push _).objs.size
      rw [Heap.size_push]
      exact Nat.lt_succ_of_lt l
  have st3 : tn 0 z3.heap := T.keep _ _ _ st2 fun b _ o e => old b o e
  have I4 := block_start I3 bo nd f3
  have mine : ∀ p' σ' G' z', Inv (Bk X scope z3 G z3.heap.objs.size (cellsFrom (z3.heap.objs.size + 1) scope.names (cloFrom X.env.cells scope.names [])) fp) p' σ' G' z' → Inv X pins σ G' z' := fun p' σ' G' z' J => I3.call' (ch := fp) J.os J.base J.hok J.bare fun b hb =>
    ⟨(f3 b hb).1.2.2.2.1, (f3 b hb).1.2.1, (f3 b hb).1.2.2.2.2.1, (f3 b hb).1.2.2.2.2.2⟩
  have tests_ := pt z3 G z3.heap.objs.size _ fp mine
  have target_ := pg z3 G z3.heap.objs.size (cellsFrom (z3.heap.objs.size + 1) scope.names (cloFrom X.env.cells scope.names [])) fp
  have elt_ := pe z3 G z3.heap.objs.size (cellsFrom (z3.heap.objs.size + 1) scope.names (cloFrom X.env.cells scope.names [])) fp
  have no : ∀ b ∈ fp, G b = none := fun b hb => (f3 b hb).1.1
  rw [← ez3]
  rw [← eG] at w0
  obtain ⟨z4, ez4⟩ : ∃ z4 : Shared, z4 = { z3 with heap := pushCells (z3.heap.push { cls := .type "dict", data := .dict #[] }) scope.names } := ⟨_, rfl⟩
  rw [← ez4]
  obtain ⟨cl, ecl⟩ : ∃ cl, cl = cellsFrom (z3.heap.objs.size + 1) scope.names (cloFrom X.env.cells scope.names []) := ⟨_, rfl⟩
  show codeAny _ _ (.compStart (.ListComp el [⟨tg, it, tests, 0⟩] scope pos) 0 (.ref a) (.ref D) (compEnvC scope (cellsFrom (z3.heap.objs.size + 1) scope.names (cloFrom X.env.cells scope.names [])) z3.heap.objs.size X.env)) (compPost (model X.prog X.w) X.A X.xe use Z (.ref D) z3.heap.objs.size) z4
  rw [← ez4, ← ecl] at I4
  rw [← ecl] at mine tests_ target_ elt_ ⊢
  have st4 : tn 0 z4.heap := T.keep _ _ _ st3 fun b _ o e => by rw [ez4]; exact pushCells_keeps _ _ _ _ (Heap.get?_push_of_some _ e)
  have away : ∀ {σ' : L2.St} {G' : Hp} {z' : Shared}, Inv (Bk X scope z3 G z3.heap.objs.size cl fp) [] σ' G' z' → (∀ b ∈ fp, G' b = none) → ∀ b ∈ fp, FpOk (Bk X scope z3 G z3.heap.objs.size cl fp) [] G' b := fun J n b hb =>
    ⟨n b hb, (J.ok.exf b hb).1, J.ok.exfs b hb, .inl hb, fun x c e => (J.ok.exf b hb).2 x c e, fun p hp => by cases (show p ∈ ([] : List (Addr × Obj)) from hp)⟩
  have whole : codeAny (model X.prog X.w) X.A (.compLoop (.ListComp el [⟨tg, it, tests, 0⟩] scope pos) 0 (.ref a) (.ref D) (compEnvC scope cl z3.heap.objs.size X.env)) (compPost (model X.prog X.w) X.A X.xe use Z (.ref D) z3.heap.objs.size) z4 := by
    refine compLoop_any (fun n z => ∃ i G', Inv (Bk X scope z3 G z3.heap.objs.size cl fp) [] (wipe σ (own.map (·.2))) G' z ∧ tn i z.heap ∧ (∀ b ∈ fp, G' b = none) ∧ W i n G') ?_ m0 ⟨0, G, I4, st4, no, w0⟩
    rintro n z5 ⟨i, G5, I5, st5, n5, w5⟩
    rcases turn i n G5 w5 with ⟨stop, qq⟩ | ⟨go, Nx, less, step⟩
    · refine thnF (T.done (Bk X scope z3 G z3.heap.objs.size cl fp) rfl rfl rfl calm i [] z5 _ G5 (fun _ _ => False) I5 (away I5 n5) st5 stop) fun r z6 ⟨hr, I6⟩ => ?_
      subst hr
      obtain ⟨m, hn, _⟩ := I6.loc
      exact back D z3.heap.objs.size z6 m G5 (mine _ _ _ _ I6) qq hn (I3.fpOk (Nat.le_refl _) I6.free)
    · refine thnF (T.item (Bk X scope z3 G z3.heap.objs.size cl fp) rfl rfl rfl calm i [] z5 _ G5 (fun _ _ => False) I5 (away I5 n5) st5 go) fun r z6 ⟨u, hr, k6⟩ => ?_
      subst hr
      refine thnF k6 fun _ z7 ⟨x, G7, I7, r7, y7, st7, n7⟩ => thnF (target_.run _ z7 _ G7 x u _ (I7.pinned (away I7 n7) (T.obj _ _ st7)) r7 (step x G7 y7)) fun _ z8 ⟨σ8, G8, I8, same, q8⟩ => thnF (tests_.run _ z8 σ8 G8 _ I8 q8) fun b z9 ⟨G9, I9, q9⟩ => ?_
      have close : ∀ {z' : Shared} {G' : Hp}, Inv (Bk X scope z3 G z3.heap.objs.size cl fp) ([] ++ pinsAt fp z7.heap) σ8 G' z' → Nx G' → ∃ m, m < n ∧ ∃ i G', Inv (Bk X scope z3 G z3.heap.objs.size cl fp) [] (wipe σ (own.map (·.2))) G' z' ∧ tn i z'.heap ∧ (∀ b ∈ fp, G' b = none) ∧ W i m G' := fun {z' G'} J nx => by
        obtain ⟨m', hm, w'⟩ := less G' nx
        have held : ∀ b ∈ fp, ∀ o, z7.heap.get? b = some o → z'.heap.get? b = some o ∧ G' b = none := fun b hb o e =>
          let k := J.pin (b, o) (List.mem_append_right _ (List.mem_append_right _ (mem_pinsAt hb e))); ⟨k.1, k.2.1⟩
        refine ⟨m', hm, i + 1, G', (J.unpinned (pins := [])).weak (by rw [← same, wipe_length]) (fun j v e => (wipe_some (by rw [← same] at e; exact e)).1), T.keep _ _ _ st7 fun b hb o e => (held b hb o e).1, fun b hb => ?_, w'⟩
        obtain ⟨o, e, _⟩ := T.obj _ _ st7 b hb
        exact (held b hb o e).2
      cases b with
      | false =>
        rw [if_neg (fun e => nomatch e)] at q9 ⊢
        exact close I9 q9
      | true =>
        rw [if_pos rfl] at q9 ⊢
        exact thnF (elt_.run _ z9 σ8 G9 _ I9 q9) fun y z10 ⟨yv, G10, I10, r10, acc, hD10, few, nx⟩ => app_ok (X := Bk X scope z3 G z3.heap.objs.size cl fp) I10 hD10 few r10 fun z11 I11 => close I11 nx
  exact codeAny_compStart_list whole (T.self X.A 0 _ _ _ st4 whole)
theorem pe_lcD {el tg it : Expr} {tests : List Expr} {scope : Scope} {own : List (Str × Nat)} {pos : Pos} {wi : TI} {g : TG} {tt : L2.St → TT} {te : TE} (calm : X.calm = true) (nd : X.N.Nodup) (pi : PI X tg it wi) (bo : BlkOk X.N X.env.scope scope own)
    (pg : ∀ z G C cl fp, PG (Bk X scope z G C cl fp) tg g) (pt : ∀ pins σ z G C cl fp, (∀ p' σ' G' z', Inv (Bk X scope z G C cl fp) p' σ' G' z' → Inv X pins σ G' z') → PTs (Bk X scope z G C cl fp) tests (tt σ))
    (pe : ∀ z G C cl fp, PE (Bk X scope z G C cl fp) el te) (folded : ∀ x, foldedSetIterable it X.env x = pure x := by intro _; rfl) : PE X (.ListComp el [⟨tg, it, tests, 0⟩] scope pos) (fun σ H Q => tLc wi g (tt σ) te (own.map (·.2)) σ H Q) := by
  refine ⟨fun pins s σ H Q I h => ?_⟩
  rw [eval_ListComp]
  exact lc_def calm nd I pi bo pg pe (pt pins σ) folded h fun D C z m G J q hn f => ⟨m, hn, fun h2 sb => ⟨.ref D, G, J.turned (t' := z.toks) (fun b o ne e => (sb.2 b ne).trans e) f.1 f.2.1 f.2.2.2.1 f.2.2.2.2.1 f.2.2.2.2.2, rfl, q⟩⟩
/-- x(e) within a comprehension of X, e a lambda of X; σ is what X held -/
def tGivC {ι : Type} (X : Cx) (σ : L2.St) (bs : ι → Lm) (tb : ι → XK → TE) (TT : (XK → Hp → VK → Prop) → Hp → VK → Prop) (te : TE) : TE := fun σ' H Q => te σ' H fun v H1 => ∃ f j, v = .ref f ∧ IsLam X H1 f (bs j) ∧ TT (fun E H' Q' => tb j E σ H' Q') H1 Q
theorem pe_givC {ι : Type} {bs : ι → Lm} {tb : ι → XK → TE} {TT : (XK → Hp → VK → Prop) → Hp → VK → Prop} {x a : Str} {g : Addr} {k : Nat} {pg : Arguments} {bg : List Stmt} {sg : Scope} {dvs : List V} {kws : List (Str × V)} {fd : FuncData} {Ng : List Str} {e : Expr} {te : TE} {p pos : Pos}
    {scope : Scope} {z : Shared} {G : Hp} {C : Addr} {cl : List (Str × Addr)} {fp : List Addr} (mine : ∀ p' σ' G' z', Inv (Bk X scope z G C cl fp) p' σ' G' z' → Inv X pins σ G' z')
    (F : FunD X.K x x pg bg sg dvs kws g fd) (hb : L2.Binds X.K fd [a] []) (Sg : FnScope Ng [a] sg) (hNg : Ng[0]? = some a) (hva : Vis sg a) (hG : GivesI X Ng x sg g bg a TT) (hr : Room (k + 2) X.A) (hg : Gl (Bk X scope z G C cl fp) x) (hm : X.mg x = some (.ref g))
    (hB : ∀ j E, LmOk X k E (bs j) (tb j E)) (he : PE (Bk X scope z G C cl fp) e te) (hdb : (x == ("__debug__" : Str)) = false := by decide) (hd : (a == ("__debug__" : Str)) = false := by decide) (hcd : (a == ("__classdict__" : Str)) = false := by decide)
    (hst : starEach [e] (Bk X scope z G C cl fp).env = (false, eval e (Bk X scope z G C cl fp).env) :: starEach [] (Bk X scope z G C cl fp).env := by rfl) : PE (Bk X scope z G C cl fp) (.Call (.Name x p) [e] [] pos) (tGivC X σ bs tb TT te) := by
  have hk := F.kp
  obtain ⟨oc, od, dV, kV, doc, pm, an, cdv, ct, osl, rfl, lk, hcg, _, _⟩ := F.ex
  refine ⟨fun pinsY s σY H Q I h => ?_⟩
  refine wpAny_Call_Name_kw (ld_glob I hg hm ?_ hdb)
  refine PySem.W.callWith_K (h₀ := X.base) I.ok.mod.kin hk ?_ hst (by rfl)
  rw [hst]
  show wpAny _ _ (spliced ((false, eval e (Bk X scope z G C cl fp).env) :: backTo pos (starEach [] (Bk X scope z G C cl fp).env))) _ _ s
  refine Calls.spliced_cons (thn (he.run pinsY s σY H _ I h) fun u s' hh => ?_)
  obtain ⟨v, H1, I1, rv, f, j, ev, hl, tt⟩ := hh
  subst ev
  obtain rfl : u = Value.ref f := rv
  refine Calls.spliced_nil ⟨I1.kIn, ?_⟩
  have IX := mine _ _ _ _ I1
  have rc : codeAny (model X.prog X.w) X.A (.call (.ref g) ⟨[.ref f], []⟩) (CR C8.CX0 X.stack X.prog X.w H1 s' Q C8.E0) s' := by
    refine run_ofS (N := Ng) (ps := [a]) (us := [.ref f]) (vs := [.ref f]) lk hcg Sg hr I1.env0 (hb s' [.ref f] I1.kIn rfl) (.cons rfl .nil) rfl fun hr' => ?_
    have act : ∀ (W : WX) (pn : List (Addr × Obj)) (xe : Value → Shared → Prop) (E : XK) (p1 p2 : Pos), Takes ((ZCx X Ng x sg g cdv s' H1).tr pn xe) W → (∀ cls d σ' H', E cls d H' → W cls d σ' H') →
        PE ((ZCx X Ng x sg g cdv s' H1).tr pn xe) (.Call (.Name a p1) [] [] p2) (fun σZ HZ Q => σZ[0]? = some (some (.ref f)) ∧ IsLam X HZ f (bs j) ∧ tb j E σ HZ Q) := fun W pn xe E p1 p2 tk hW =>
      ⟨fun pinsZ sZ σZ HZ QZ IZ hZ => (pe_actI (i := 0) IX tk hW hr' (hB j E) hNg hva hd hcd).run pinsZ sZ σZ HZ QZ IZ ⟨f, hZ.1, hZ.2.1, hZ.2.2⟩⟩
    obtain ⟨t', ht', hq'⟩ := hG cdv f (fun H => IsLam X H f (bs j)) s' H1 Q (fun E H' Q' => tb j E σ H' Q') (fun H H' e z => z.same e) act hl tt
    exact ⟨t', ht'.nox, hq'⟩
  refine wpAny_call (codeAny_mono rc fun r s2 hq => ?_)
  cases r with
  | error e => exact (show False from hq).elim
  | ok fl =>
    cases fl with
    | ret u => exact I1.after hq
    | next => exact False.elim hq
    | brk => exact False.elim hq
    | cont => exact False.elim hq
end
end Say

set_option Elab.async false
set_option linter.all false
set_option pp.maxSteps 800
set_option pp.deepTerms false
set_option maxRecDepth 100000
set_option maxHeartbeats 8000000
/-! a lambda called by another def within a comprehension, what it raises told of the very state -/
namespace Say
open PySem PySem.Spec PyProof.Rows L2 LamX
section
variable {X : Cx} {pins : List (Addr × Obj)} {σ : L2.St} {H : Hp} {s : Shared}
theorem pe_actS {Ng : List Str} {qg : Str} {sg : Scope} {g : Addr} {cdg : Value} {k i : Nat} {a : Str} {pn : List (Addr × Obj)} {xe : Value → Shared → Prop} {W : WX} {b : Lm} {tb : XK → TE} {p1 p2 : Pos} (I : Inv X pins σ H s) (tk : Takes ((ZCx X Ng qg sg g cdg s H).tr pn xe) W)
    (hr : Room (k + 1) (X.A.deeper (envOfC qg sg s.heap.objs.size g cdg))) (B : ∀ E, LmOk X k E b (tb E)) (hN : Ng[i]? = some a) (hv : Vis sg a) (hd : (a == ("__debug__" : Str)) = false := by decide) (hcd : (a == ("__classdict__" : Str)) = false := by decide) :
    PE ((ZCx X Ng qg sg g cdg s H).tr pn xe) (.Call (.Name a p1) [] [] p2) (fun σZ HZ Q => ∃ f, σZ[i]? = some (some (.ref f)) ∧ IsLam X HZ f b ∧ tb (WE W σZ) σ HZ Q) := by
  refine ⟨fun pinsZ sZ σZ HZ Q IZ h => ?_⟩
  have B := B (WE W σZ)
  obtain ⟨f, hs, hl, ht⟩ := h
  refine wpAny_Call_Name_kw (thn ((pe_var (pos := p1) (i := i) hN hv hd hcd).run pinsZ sZ σZ HZ (fun v H1 => v = .ref f ∧ H1 = HZ) IZ ⟨.ref f, hs, rfl, rfl⟩) fun u s1 ⟨v, H1, I1, r1, q1⟩ => ?_)
  obtain ⟨rfl, rfl⟩ := q1
  obtain rfl : u = Value.ref f := r1
  obtain ⟨pm, ctv, c, h1, h2⟩ := hl
  have of1 : s1.heap.get? f = some (lmObj X b pm ctv c) := (I1.hok f _ h1).1
  obtain ⟨⟨oc, vs, t, hoc, hdc, hvc⟩, _, _⟩ := I1.hok c _ h2
  refine PySem.W.callWith_F0 ⟨_, _, _, _, of1⟩ ?_
  have un : Un (frs X.stack) [] H H1 s.heap s1.heap := I1.base
  have rc : codeAny (model X.prog X.w) (X.A.deeper (envOfC qg sg s.heap.objs.size g cdg)) (.call (.ref f) ⟨[], []⟩) (CR (L2.CX X.prog X.w) (envOfC qg sg s.heap.objs.size g cdg :: X.stack) X.prog X.w H1 s1 Q (WE W σZ)) s1 := by
    refine PySem.W.kla_callFunE hr.depth of1 rfl B.own.co B.own.gen rfl ⟨c, oc, vs, t, rfl, hoc, hdc, hvc⟩ ?_
    rw [B.bind]
    refine wpAny_pure (wpAny_newFunctionEnv (fun y hy => (B.own.own y hy).2) (fun y hy => absurd hy (by simp)) (fun h₁ hns hsb => ⟨I1.nolimit.fresh _ hsb, ?_⟩) B.own.kind)
    show codeAny _ _ (.expr b.bd (lamEnv X b.sc s1.heap.objs.size f c)) _ _
    have kp : ∀ d o, s1.heap.get? d = some o → h₁.get? d = some o := fun d o e => hsb.extBut d o (Nat.ne_of_lt (Heap.lt_size e)) (Heap.get?_push_of_some _ e)
    have J : Inv (lamCx X (X.A.deeper (envOfC qg sg s.heap.objs.size g cdg)) (envOfC qg sg s.heap.objs.size g cdg :: X.stack) s1 H1 (WE W σZ) b.sc f c) [] σ H1 { s1 with heap := h₁, toks := s1.toks + ([] : List (Str × Value)).length } :=
      lam_start2 I B.own I1.env0 hr.hd un hns kp
    refine PySem.W.kla_codeExpr (wpAny_mono ((B.body _ _ s1 H1 f c (hr.deeper _)).run [] _ _ H1 Q J ht) (fun v s' hq => ?_) fun e s' hq => hq)
    obtain ⟨w', H', J', rv, q⟩ := hq
    exact ⟨w', H', J'.os, J'.bare, J'.base, J'.hok, rv, q⟩
  have hx : PassesAt (L2.CX X.prog X.w) ((ZCx X Ng qg sg g cdg s H).tr pn xe) σZ (WE W σZ) := passAt tk σZ
  refine wpAny_call (codeAny_mono rc fun r s' hq => ?_)
  cases r with
  | error e => exact hx pinsZ H1 s1 e s' I1 hq
  | ok fl =>
    cases fl with
    | ret u => exact I1.after hq
    | next => exact False.elim hq
    | brk => exact False.elim hq
    | cont => exact False.elim hq
/-- what the def makes of it: TT tells it by the lambda's own reading -/
def GivesS (X : Cx) (Ng : List Str) (x : Str) (sg : Scope) (g : Addr) (bg : List Stmt) (a : Str) (TT : (XK → Hp → VK → Prop) → Hp → VK → Prop) : Prop :=
  ∀ (cdg : Value) (f : Addr) (il : Hp → Prop) (s : Shared) (H : Hp) (Q : VK) (tl : XK → Hp → VK → Prop), (∀ H H', Same H H' → il H → il H') →
    (∀ (W : WX) (pn : List (Addr × Obj)) (xe : Value → Shared → Prop) (p1 p2 : Pos), Takes ((ZCx X Ng x sg g cdg s H).tr pn xe) W →
      PE ((ZCx X Ng x sg g cdg s H).tr pn xe) (.Call (.Name a p1) [] [] p2) (fun σZ HZ Q => σZ[0]? = some (some (.ref f)) ∧ il HZ ∧ tl (WE W σZ) HZ Q)) →
    il H → TT tl H Q → ∃ t, PSs (ZCx X Ng x sg g cdg s H).nox bg t ∧ t { nx := fun _ H' => Q .non H', rt := Q } (L2.start Ng [.ref f]) H
/-- x(e) within a comprehension of X, e a lambda of X; σ is what X held -/
def tGivS {ι : Type} (X : Cx) (σ : L2.St) (bs : ι → Lm) (tb : ι → XK → TE) (TT : (XK → Hp → VK → Prop) → Hp → VK → Prop) (te : TE) : TE := fun σ' H Q => te σ' H fun v H1 => ∃ f j, v = .ref f ∧ IsLam X H1 f (bs j) ∧ TT (fun E H' Q' => tb j E σ H' Q') H1 Q
theorem pe_givS {ι : Type} {bs : ι → Lm} {tb : ι → XK → TE} {TT : (XK → Hp → VK → Prop) → Hp → VK → Prop} {x a : Str} {g : Addr} {k : Nat} {pg : Arguments} {bg : List Stmt} {sg : Scope} {dvs : List V} {kws : List (Str × V)} {fd : FuncData} {Ng : List Str} {e : Expr} {te : TE} {p pos : Pos}
    {scope : Scope} {z : Shared} {G : Hp} {C : Addr} {cl : List (Str × Addr)} {fp : List Addr} (mine : ∀ p' σ' G' z', Inv (Bk X scope z G C cl fp) p' σ' G' z' → Inv X pins σ G' z')
    (F : FunD X.K x x pg bg sg dvs kws g fd) (hb : L2.Binds X.K fd [a] []) (Sg : FnScope Ng [a] sg) (hNg : Ng[0]? = some a) (hva : Vis sg a) (hG : GivesS X Ng x sg g bg a TT) (hr : Room (k + 2) X.A) (hg : Gl (Bk X scope z G C cl fp) x) (hm : X.mg x = some (.ref g))
    (hB : ∀ j E, LmOk X k E (bs j) (tb j E)) (he : PE (Bk X scope z G C cl fp) e te) (hdb : (x == ("__debug__" : Str)) = false := by decide) (hd : (a == ("__debug__" : Str)) = false := by decide) (hcd : (a == ("__classdict__" : Str)) = false := by decide)
    (hst : starEach [e] (Bk X scope z G C cl fp).env = (false, eval e (Bk X scope z G C cl fp).env) :: starEach [] (Bk X scope z G C cl fp).env := by rfl) : PE (Bk X scope z G C cl fp) (.Call (.Name x p) [e] [] pos) (tGivS X σ bs tb TT te) := by
  have hk := F.kp
  obtain ⟨oc, od, dV, kV, doc, pm, an, cdv, ct, osl, rfl, lk, hcg, _, _⟩ := F.ex
  refine ⟨fun pinsY s σY H Q I h => ?_⟩
  refine wpAny_Call_Name_kw (ld_glob I hg hm ?_ hdb)
  refine PySem.W.callWith_K (h₀ := X.base) I.ok.mod.kin hk ?_ hst (by rfl)
  rw [hst]
  show wpAny _ _ (spliced ((false, eval e (Bk X scope z G C cl fp).env) :: backTo pos (starEach [] (Bk X scope z G C cl fp).env))) _ _ s
  refine Calls.spliced_cons (thn (he.run pinsY s σY H _ I h) fun u s' hh => ?_)
  obtain ⟨v, H1, I1, rv, f, j, ev, hl, tt⟩ := hh
  subst ev
  obtain rfl : u = Value.ref f := rv
  refine Calls.spliced_nil ⟨I1.kIn, ?_⟩
  have IX := mine _ _ _ _ I1
  have rc : codeAny (model X.prog X.w) X.A (.call (.ref g) ⟨[.ref f], []⟩) (CR C8.CX0 X.stack X.prog X.w H1 s' Q C8.E0) s' := by
    refine run_ofS (N := Ng) (ps := [a]) (us := [.ref f]) (vs := [.ref f]) lk hcg Sg hr I1.env0 (hb s' [.ref f] I1.kIn rfl) (.cons rfl .nil) rfl fun hr' => ?_
    have act : ∀ (W : WX) (pn : List (Addr × Obj)) (xe : Value → Shared → Prop) (p1 p2 : Pos), Takes ((ZCx X Ng x sg g cdv s' H1).tr pn xe) W →
        PE ((ZCx X Ng x sg g cdv s' H1).tr pn xe) (.Call (.Name a p1) [] [] p2) (fun σZ HZ Q => σZ[0]? = some (some (.ref f)) ∧ IsLam X HZ f (bs j) ∧ tb j (WE W σZ) σ HZ Q) := fun W pn xe p1 p2 tk =>
      ⟨fun pinsZ sZ σZ HZ QZ IZ hZ => (pe_actS (i := 0) IX tk hr' (hB j) hNg hva hd hcd).run pinsZ sZ σZ HZ QZ IZ ⟨f, hZ.1, hZ.2.1, hZ.2.2⟩⟩
    obtain ⟨t', ht', hq'⟩ := hG cdv f (fun H => IsLam X H f (bs j)) s' H1 Q (fun E H' Q' => tb j E σ H' Q') (fun H H' e z => z.same e) act hl tt
    exact ⟨t', ht'.nox, hq'⟩
  refine wpAny_call (codeAny_mono rc fun r s2 hq => ?_)
  cases r with
  | error e => exact (show False from hq).elim
  | ok fl =>
    cases fl with
    | ret u => exact I1.after hq
    | next => exact False.elim hq
    | brk => exact False.elim hq
    | cont => exact False.elim hq
end
end Say

set_option Elab.async false
set_option linter.all false
set_option maxRecDepth 100000
set_option maxHeartbeats 4000000
/-! a comprehension that keeps some: what it holds, turn by turn; a test that comes out false -/
namespace Say
open PySem PySem.Spec PyProof.Rows L2
def keptV {α : Type} (f : α → Bool) (vs : List V) (L : List α) (j : Nat) : List V := (((vs.zip L).take j).filter fun e => f e.2).map (·.1)
section
variable {α : Type} {f : α → Bool} {vs : List V} {L : List α} {j : Nat} {x : V} {r : α}
theorem keptV_more (h1 : vs[j]? = some x) (h2 : L[j]? = some r) (c : f r = true) : keptV f vs L (j + 1) = keptV f vs L j ++ [x] := by
  unfold keptV
  rw [List.take_succ, show (vs.zip L)[j]? = some (x, r) from List.getElem?_zip_eq_some.mpr ⟨h1, h2⟩]
  show ((((vs.zip L).take j) ++ [(x, r)]).filter fun e => f e.2).map (·.1) = _
  rw [List.filter_append, List.filter_cons, if_pos c, List.map_append]
  rfl
theorem keptV_keep (h1 : vs[j]? = some x) (h2 : L[j]? = some r) (c : f r = false) : keptV f vs L (j + 1) = keptV f vs L j := by
  unfold keptV
  rw [List.take_succ, show (vs.zip L)[j]? = some (x, r) from List.getElem?_zip_eq_some.mpr ⟨h1, h2⟩]
  show ((((vs.zip L).take j) ++ [(x, r)]).filter fun e => f e.2).map (·.1) = _
  rw [List.filter_append, List.filter_cons, if_neg (by rw [c]; exact fun z => nomatch z)]
  rw [show ([] : List (V × α)).filter (fun e => f e.2) = [] from rfl, List.append_nil]
theorem keptV_len (f : α → Bool) (vs : List V) (L : List α) (j : Nat) : (keptV f vs L j).length ≤ L.length := by
  unfold keptV
  have z1 := List.length_filter_le (fun e : V × α => f e.2) ((vs.zip L).take j)
  rw [List.length_take, List.length_zip] at z1
  rw [List.length_map]
  omega
end
theorem keptV_dp {α : Type} {K : PySem.W.Frag} {H : Hp} {g : α → PyData} (f : α → Bool) : ∀ {vs : List V} {L : List α} (m : Nat), L.length ≤ m → DpAll K H vs (L.map g) → DpAll K H (keptV f vs L m) ((L.filter f).map g)
  | [], [], m, _, _ => by
    unfold keptV
    rw [show ([] : List V).zip ([] : List α) = [] from rfl, List.take_nil]
    exact .nil
  | v :: vs, r :: L, m + 1, l, .cons h t => by
    have ih := keptV_dp f m (Nat.le_of_succ_le_succ l) t
    unfold keptV at ih ⊢
    rw [List.zip_cons_cons, List.take_succ_cons, List.filter_cons, List.filter_cons]
    by_cases c : f r = true
    · rw [if_pos c, if_pos c]
      exact .cons h ih
    · rw [if_neg c, if_neg c]
      exact ih
  | _ :: _, _ :: _, 0, l, _ => absurd l (by simp)
  | [], _ :: _, _, _, h => nomatch h
  | _ :: _, [], _, _, h => nomatch h
/-- a test that comes out false, wherever it ends -/
theorem ifS_no {c : TT} {t u : TS} {D : Ends} {σ : L2.St} {H : Hp} (hc : ∀ Qc : Bool → Hp → Prop, (∀ H', Same H H' → Qc false H') → c σ H Qc) (k : ∀ H', Same H H' → u D σ H') : tIfS c t u D σ H := hc _ fun H' s => iteF (k H' s)
end Say

set_option Elab.async false
set_option linter.all false
set_option maxRecDepth 100000
set_option maxHeartbeats 4000000
/-! Data without the heap: what a def's slots hold, told as data; what a part of a text answers, told of the data alone. -/
namespace Say
open PySem PySem.Spec PyProof.Rows L2 LamX
/-! ### 1. heaps -/
/-- what a lambda of a law is called -/
def qLam : Str := "law.<locals>.<lambda>"
/-- all stays but boxes and tables of codes; these stay in order -/
structure Fr (bx : Addr → Prop) (H H' : Hp) : Prop where
  kp : ∀ b o, ¬ bx b → (∀ ps, o ≠ .tbl ps) → H b = some o → H' b = some o
  dm : ∀ b, H b ≠ none → H' b ≠ none
  bo : ∀ b, bx b → BoxAt H b → BoxAt H' b
  tb : ∀ P, TabS H P qLam → TabS H' P qLam
theorem Fr.refl {bx : Addr → Prop} (H : Hp) : Fr bx H H := ⟨fun _ _ _ _ h => h, fun _ h => h, fun _ _ h => h, fun _ h => h⟩
theorem Fr.trans {bx : Addr → Prop} {H H1 H2 : Hp} (a : Fr bx H H1) (b : Fr bx H1 H2) : Fr bx H H2 := ⟨fun x o n t h => b.kp x o n t (a.kp x o n t h), fun x h => b.dm x (a.dm x h), fun x n h => b.bo x n (a.bo x n h), fun P h => b.tb P (a.tb P h)⟩
theorem Fr.of {bx : Addr → Prop} {H H' : Hp} (s : Same H H') : Fr bx H H' := ⟨fun b o _ _ h => s b o h, fun b h => by
  cases e : H b with
  | none => exact absurd e h
  | some o =>
    rw [s _ _ e]
    exact fun z => (by cases z), fun b _ (h : BoxAt H b) => BoxAt.same h s, fun P h => h.ext s⟩
theorem Fr.new {bx : Addr → Prop} {H H' : Hp} {p : Addr} {o : HO} (f : Fr bx H H') (n : H' p = none) : Fr bx H (upd H' p o) := f.trans (.of (same_new n))
theorem Fr.free {bx : Addr → Prop} {H H' : Hp} {p : Addr} (f : Fr bx H H') (n : H' p = none) : H p = none := by
  cases e : H p with
  | none => rfl
  | some o => exact absurd n (f.dm p (by rw [e]; exact fun z => (by cases z)))
theorem tab_upd2 {H : Hp} {p P : Addr} {o : HO} {q : Str} (t : TabS H P q) (ne : P ≠ p) (nc : ∀ q, H p ≠ some (CodeO p q)) : TabS (upd H p o) P q := by
  obtain ⟨ps, h1, h2, h3⟩ := t
  refine ⟨ps, by rw [upd_ne ne]; exact h1, h2, fun pos cv e => ?_⟩
  obtain ⟨c, rfl, hc⟩ := h3 pos cv e
  refine ⟨c, rfl, ?_⟩
  rw [upd_ne (fun z => nc q (by rw [← z]; exact hc))]
  exact hc
theorem nc_lst {H : Hp} {p : Addr} {vs : List V} (h : H p = some (.lst vs)) : ∀ q, H p ≠ some (CodeO p q) := fun q z => by
  rw [h] at z
  unfold CodeO at z
  cases z
theorem nc_dK {H : Hp} {p : Addr} {vs : List (Key × V)} (h : H p = some (.dK vs)) : ∀ q, H p ≠ some (CodeO p q) := fun q z => by
  rw [h] at z
  unfold CodeO at z
  cases z
theorem nc_ins {H : Hp} {p C dx : Addr} {vs : List (Str × V)} (h : H p = some (.ins C dx vs)) : ∀ q, H p ≠ some (CodeO p q) := fun q z => by
  rw [h] at z
  unfold CodeO at z
  cases z
/-- a store at an object that was not there at first -/
theorem Fr.upd {bx : Addr → Prop} {H0 H : Hp} {p : Addr} {o : HO} (f : Fr bx H0 H) (n : H0 p = none) (nb : ¬ bx p) (nc : ∀ q, H p ≠ some (CodeO p q)) : Fr bx H0 (upd H p o) :=
  ⟨fun b u hb ht h => by rw [upd_ne (ne_of_none h n)]; exact f.kp b u hb ht h, fun b h => by
    by_cases e : b = p
    · rw [e] at h
      exact absurd n h
    · rw [upd_ne e]
      exact f.dm b h, fun b hb h => by
    obtain ⟨x, y, z, e⟩ := f.bo b hb h
    exact ⟨x, y, z, by rw [upd_ne (fun q => nb (by rw [← q]; exact hb))]; exact e⟩, fun P t => tab_upd2 (f.tb P t) (fun e => by obtain ⟨_, h, _⟩ := t; rw [e, n] at h; cases h) nc⟩
theorem Fr.sub {bx by' : Addr → Prop} {H H' : Hp} (f : Fr bx H H') (h : ∀ b, bx b → by' b) (hb : ∀ b, by' b → BoxAt H b → BoxAt H' b) : Fr by' H H' := ⟨fun b o n t e => f.kp b o (fun z => n (h b z)) t e, f.dm, hb, f.tb⟩
open Classical in
/-- what stands but at X, and no table -/
noncomputable def core (X : Addr → Prop) (H : Hp) : Hp := fun b => if X b then none else match H b with | some (.tbl _) => none | o => o
theorem core_some {X : Addr → Prop} {H : Hp} {b : Addr} {o : HO} (h : core X H b = some o) : ¬ X b ∧ H b = some o ∧ ∀ ps, o ≠ .tbl ps := by
  unfold core at h
  split at h
  · cases h
  · rename_i n
    cases e : H b with
    | none =>
      rw [e] at h
      cases h
    | some u =>
      rw [e] at h
      cases u <;> first | (cases h; exact ⟨n, rfl, fun ps z => by cases z⟩) | cases h
theorem core_of {X : Addr → Prop} {H : Hp} {b : Addr} {o : HO} (n : ¬ X b) (h : H b = some o) (t : ∀ ps, o ≠ .tbl ps) : core X H b = some o := by
  unfold core
  rw [if_neg n, h]
  cases o <;> first | rfl | exact absurd rfl (t _)
theorem core_le {X : Addr → Prop} {H : Hp} : Same (core X H) H := fun b o h => (core_some h).2.1
theorem core_fr {bx X : Addr → Prop} {H H' : Hp} (f : Fr bx H H') (h : ∀ b, bx b → X b) : Same (core X H) (core X H') := fun b o e =>
  let ⟨n, q, t⟩ := core_some e
  core_of n (f.kp b o (fun z => n (h b z)) t q) t
theorem core_sub {X Y : Addr → Prop} {H : Hp} (h : ∀ b, Y b → X b) : Same (core X H) (core Y H) := fun b o e =>
  let ⟨n, q, t⟩ := core_some e
  core_of (fun z => n (h b z)) q t
theorem core_upd {X : Addr → Prop} {H : Hp} {p : Addr} {o : HO} (h : X p) : core X (upd H p o) = core X H := by
  funext b
  unfold core
  by_cases e : X b
  · rw [if_pos e, if_pos e]
  · rw [if_neg e, if_neg e, upd_ne (fun z => e (by rw [z]; exact h))]
/-! ### 2. data, and what a slot holds -/
/-- what a field of an instance holds -/
inductive Fd where
  | d (x : PyData)
  | pt (xs : List PyData)
inductive Dat where
  /-- data -/
  | d (x : PyData)
  /-- a value as it stands -/
  | v (x : V)
  /-- a list that stands plainly, its items data -/
  | ls (xs : List PyData)
  /-- a plain tuple of data -/
  | pt (xs : List PyData)
  /-- a dict that nobody changes any more -/
  | fm (kvs : List (Key × PyData))
  /-- a list of one's own, that may still change -/
  | o (D : Addr) (xs : List PyData)
  /-- a dict of one's own, its keys numbers and texts, that may still change -/
  | m (D : Addr) (kvs : List (Key × PyData))
  /-- an instance that nobody changes any more -/
  | fi (C : Addr) (fs : List (Str × Fd))
  /-- an instance of one's own -/
  | i (D C : Addr) (fs : List (Str × Fd))
  /-- any other thing, by what stays true of it -/
  | s (P : Hp → V → Prop)
/-- a tuple without a dict of its own -/
def PlainT (o : Obj) : Prop := o.cls = .type "tuple" ∧ o.dict = none
def isO : Dat → Bool
  | .o _ _ => true
  | .m _ _ => true
  | .i _ _ _ => true
  | _ => false
def FdOk (K : PySem.W.Frag) (C : Hp) (v : V) : Fd → Prop
  | .d x => Dp K C v x
  | .pt xs => ∃ a o vs, v = .ref a ∧ C a = some (.frz o (.tup vs)) ∧ PlainT o ∧ DpAll K C vs xs
inductive FdAll (K : PySem.W.Frag) (C : Hp) : List (Str × V) → List (Str × Fd) → Prop where
  | nil : FdAll K C [] []
  | cons {n : Str} {v : V} {f : Fd} {r : List (Str × V)} {s : List (Str × Fd)} : FdOk K C v f → FdAll K C r s → FdAll K C ((n, v) :: r) ((n, f) :: s)
theorem fd_mono {K : PySem.W.Frag} {C C' : Hp} (h : Same C C') {v : V} : ∀ {f : Fd}, FdOk K C v f → FdOk K C' v f
  | .d x, e => dp_mono h _ _ e
  | .pt xs, ⟨a, o, vs, e1, e2, e3, e4⟩ => ⟨a, o, vs, e1, h _ _ e2, e3, dpAll_mono h _ _ e4⟩
theorem fdAll_mono {K : PySem.W.Frag} {C C' : Hp} (h : Same C C') : ∀ {vs : List (Str × V)} {fs : List (Str × Fd)}, FdAll K C vs fs → FdAll K C' vs fs
  | _, _, .nil => .nil
  | _, _, .cons a b => .cons (fd_mono h a) (fdAll_mono h b)
def DaOk (K : PySem.W.Frag) (bx X : Addr → Prop) (H : Hp) (v : V) : Dat → Prop
  | .d x => Dp K (core X H) v x
  | .v x => v = x
  | .ls xs => ∃ a vs, v = .ref a ∧ core X H a = some (.lst vs) ∧ DpAll K (core X H) vs xs
  | .pt xs => ∃ a o vs, v = .ref a ∧ core X H a = some (.frz o (.tup vs)) ∧ PlainT o ∧ DpAll K (core X H) vs xs
  | .fm kvs => ∃ D us, v = .ref D ∧ core X H D = some (.dK ((kvs.map (·.1)).zip us)) ∧ DpAll K (core X H) us (kvs.map (·.2))
  | .o D xs => v = .ref D ∧ X D ∧ ¬ bx D ∧ ∃ vs, H D = some (.lst vs) ∧ DpAll K (core X H) vs xs
  | .m D kvs => v = .ref D ∧ X D ∧ ¬ bx D ∧ ∃ us : List V, H D = some (.dK ((kvs.map (·.1)).zip us)) ∧ DpAll K (core X H) us (kvs.map (·.2))
  | .fi C fs => ∃ a dx vs, v = .ref a ∧ core X H a = some (.ins C dx vs) ∧ FdAll K (core X H) vs fs
  | .i D C fs => v = .ref D ∧ X D ∧ ¬ bx D ∧ ∃ dx vs, H D = some (.ins C dx vs) ∧ FdAll K (core X H) vs fs
  | .s P => ∀ H', Same (core X H) H' → P H' v
theorem da_fr {K : PySem.W.Frag} {bx X : Addr → Prop} {H H' : Hp} {v : V} (f : Fr bx H H') (h : ∀ b, bx b → X b) : ∀ {x : Dat}, DaOk K bx X H v x → DaOk K bx X H' v x
  | .d x, e => dp_mono (core_fr f h) _ _ e
  | .v x, e => e
  | .ls xs, ⟨a, vs, e1, e2, e3⟩ => ⟨a, vs, e1, core_fr f h _ _ e2, dpAll_mono (core_fr f h) _ _ e3⟩
  | .o D xs, ⟨e1, e2, e3, vs, e4, e5⟩ => ⟨e1, e2, e3, vs, f.kp _ _ e3 (fun ps z => by cases z) e4, dpAll_mono (core_fr f h) _ _ e5⟩
  | .pt xs, ⟨a, o, vs, e1, e2, e3, e4⟩ => ⟨a, o, vs, e1, core_fr f h _ _ e2, e3, dpAll_mono (core_fr f h) _ _ e4⟩
  | .fm kvs, ⟨D, us, e1, e2, e3⟩ => ⟨D, us, e1, core_fr f h _ _ e2, dpAll_mono (core_fr f h) _ _ e3⟩
  | .m D kvs, ⟨e1, e2, e3, us, e4, e5⟩ => ⟨e1, e2, e3, us, f.kp _ _ e3 (fun ps z => by cases z) e4, dpAll_mono (core_fr f h) _ _ e5⟩
  | .fi C fs, ⟨a, dx, vs, e1, e2, e3⟩ => ⟨a, dx, vs, e1, core_fr f h _ _ e2, fdAll_mono (core_fr f h) e3⟩
  | .i D C fs, ⟨e1, e2, e3, dx, vs, e4, e5⟩ => ⟨e1, e2, e3, dx, vs, f.kp _ _ e3 (fun ps z => by cases z) e4, fdAll_mono (core_fr f h) e5⟩
  | .s P, e => fun H2 s => e H2 (same_tr (core_fr f h) s)
inductive DaAll (K : PySem.W.Frag) (bx X : Addr → Prop) (H : Hp) : List V → List Dat → Prop where
  | nil : DaAll K bx X H [] []
  | cons {v : V} {vs : List V} {x : Dat} {xs : List Dat} : DaOk K bx X H v x → DaAll K bx X H vs xs → DaAll K bx X H (v :: vs) (x :: xs)
theorem daAll_fr {K : PySem.W.Frag} {bx X : Addr → Prop} {H H' : Hp} (f : Fr bx H H') (h : ∀ b, bx b → X b) : ∀ {vs : List V} {xs : List Dat}, DaAll K bx X H vs xs → DaAll K bx X H' vs xs
  | _, _, .nil => .nil
  | _, _, .cons a b => .cons (da_fr f h a) (daAll_fr f h b)
theorem daAll_len {K : PySem.W.Frag} {bx X : Addr → Prop} {H : Hp} : ∀ {vs : List V} {xs : List Dat}, DaAll K bx X H vs xs → vs.length = xs.length
  | _, _, .nil => rfl
  | _, _, .cons a b => by rw [List.length_cons, List.length_cons, daAll_len b]
abbrev Rho := List (Option Dat)
/-- what may change -/
def isMut (o : HO) : Prop := (∀ xs, o ≠ .tup xs) ∧ (∀ a u, o ≠ .frz a u) ∧ ∀ ps, o ≠ .tbl ps
theorem mut_lst {xs : List V} : isMut (.lst xs) := ⟨fun _ h => (by cases h), fun _ _ h => (by cases h), fun _ h => (by cases h)⟩
/-- the heap may be read so -/
structure EnX (bx X0 : Addr → Prop) (H0 : Hp) (X : Addr → Prop) (H : Hp) : Prop where
  sub : ∀ b, bx b → X b
  mu : ∀ b, X b → ∃ o, H b = some o ∧ isMut o
  bo : ∀ b, bx b → BoxAt H b
  s0 : ∀ b, X0 b → X b
  fr : Fr bx H0 H
theorem EnX.go {bx X0 X : Addr → Prop} {H0 H H' : Hp} (e : EnX bx X0 H0 X H) (f : Fr bx H H') : EnX bx X0 H0 X H' := ⟨e.sub, fun b h => by
    by_cases c : bx b
    · obtain ⟨x, y, z, q⟩ := f.bo b c (e.bo b c)
      exact ⟨_, q, mut_lst⟩
    · obtain ⟨o, q, m⟩ := e.mu b h
      exact ⟨o, f.kp b o c m.2.2 q, m⟩, fun b h => f.bo b h (e.bo b h), e.s0, e.fr.trans f⟩
theorem EnX.dm {bx X0 X : Addr → Prop} {H0 H : Hp} (e : EnX bx X0 H0 X H) : ∀ b, X b → H b ≠ none := fun b h => by
  obtain ⟨o, q, _⟩ := e.mu b h
  rw [q]
  exact fun z => by cases z
/-- tuples and locked things stand in the core -/
theorem grow_core {X : Addr → Prop} {H : Hp} (mu : ∀ b, X b → ∃ o, H b = some o ∧ isMut o) : Grow H (core X H) := ⟨fun a xs h => core_of (fun z => by
    obtain ⟨o, q, m⟩ := mu a z
    rw [h] at q
    cases q
    exact m.1 xs rfl) h fun ps z => (by cases z), fun a o u h => core_of (fun z => by
    obtain ⟨o2, q, m⟩ := mu a z
    rw [h] at q
    cases q
    exact m.2.1 o u rfl) h fun ps z => (by cases z)⟩
theorem EnX.no {bx X0 X : Addr → Prop} {H0 H : Hp} {p : Addr} (e : EnX bx X0 H0 X H) (n : H p = none) : ¬ X p := fun z => e.dm p z n
theorem EnX.grow {bx X0 X : Addr → Prop} {H0 H : Hp} (e : EnX bx X0 H0 X H) : Grow H (core X H) := grow_core e.mu
structure En (K : PySem.W.Frag) (bx X0 : Addr → Prop) (H0 : Hp) (X : Addr → Prop) (H : Hp) (σ : L2.St) (ρ : Rho) : Prop extends EnX bx X0 H0 X H where
  len : σ.length = ρ.length
  at_ : ∀ (i : Nat) (x : Dat), ρ[i]? = some (some x) → ∃ v, σ[i]? = some (some v) ∧ DaOk K bx X H v x
theorem En.go {K : PySem.W.Frag} {bx X0 X : Addr → Prop} {H0 H H' : Hp} {σ : L2.St} {ρ : Rho} (e : En K bx X0 H0 X H σ ρ) (f : Fr bx H H') : En K bx X0 H0 X H' σ ρ :=
  ⟨e.toEnX.go f, e.len, fun i x h => let ⟨v, h1, h2⟩ := e.at_ i x h; ⟨v, h1, da_fr f e.sub h2⟩⟩
theorem En.set {K : PySem.W.Frag} {bx X0 X : Addr → Prop} {H0 H : Hp} {σ : L2.St} {ρ : Rho} {i : Nat} {v : V} {x : Dat} (e : En K bx X0 H0 X H σ ρ) (h : DaOk K bx X H v x) : En K bx X0 H0 X H (σ.set i (some v)) (ρ.set i (some x)) := by
  refine ⟨e.toEnX, by rw [List.length_set, List.length_set]; exact e.len, fun j y hy => ?_⟩
  by_cases c : j = i
  · subst c
    rw [List.getElem?_set] at hy ⊢
    rw [if_pos rfl] at hy ⊢
    split at hy
    · rename_i l
      cases hy
      rw [if_pos (by rw [e.len]; exact l)]
      exact ⟨v, rfl, h⟩
    · cases hy
  · rw [List.getElem?_set_ne (Ne.symm c)] at hy ⊢
    exact e.at_ j y hy
/-- the slots of a comprehension's own, forgotten -/
def wipeR (ρ : Rho) : List Nat → Rho
  | [] => ρ
  | i :: r => (wipeR ρ r).set i none
/-- forget a slot -/
theorem En.off {K : PySem.W.Frag} {bx X0 X : Addr → Prop} {H0 H : Hp} {σ : L2.St} {ρ : Rho} {i : Nat} {o : Option V} (e : En K bx X0 H0 X H σ ρ) : En K bx X0 H0 X H (σ.set i o) (ρ.set i none) := by
  refine ⟨e.toEnX, by rw [List.length_set, List.length_set]; exact e.len, fun j y hy => ?_⟩
  by_cases c : j = i
  · subst c
    rw [List.getElem?_set, if_pos rfl] at hy
    split at hy <;> cases hy
  · rw [List.getElem?_set_ne (Ne.symm c)] at hy ⊢
    exact e.at_ j y hy
theorem En.forget {K : PySem.W.Frag} {bx X0 X : Addr → Prop} {H0 H : Hp} {σ : L2.St} {ρ : Rho} {i : Nat} (e : En K bx X0 H0 X H σ ρ) : En K bx X0 H0 X H σ (ρ.set i none) := by
  refine ⟨e.toEnX, by rw [List.length_set]; exact e.len, fun j y hy => ?_⟩
  by_cases c : j = i
  · subst c
    rw [List.getElem?_set, if_pos rfl] at hy
    split at hy <;> cases hy
  · rw [List.getElem?_set_ne (Ne.symm c)] at hy
    exact e.at_ j y hy
theorem En.wipe {K : PySem.W.Frag} {bx X0 X : Addr → Prop} {H0 H : Hp} {σ : L2.St} {ρ : Rho} (e : En K bx X0 H0 X H σ ρ) : ∀ (vs : List Nat), En K bx X0 H0 X H (L2.wipe σ vs) (wipeR ρ vs)
  | [] => e
  | i :: r => (e.wipe r).off
end Say

set_option Elab.async false
set_option linter.all false
set_option maxRecDepth 100000
set_option maxHeartbeats 4000000
namespace Say
open PySem PySem.Spec PyProof.Rows L2
/-! ### 3. what an expression answers -/
theorem ok_d {K : PySem.W.Frag} {bx X : Addr → Prop} {H : Hp} {v : V} {x : PyData} (h : Dp K (core X H) v x) : DaOk K bx X H v (.d x) := h
theorem ok_ls {K : PySem.W.Frag} {bx X : Addr → Prop} {H : Hp} {a : Addr} {vs : List V} {xs : List PyData} (h : core X H a = some (.lst vs)) (d : DpAll K (core X H) vs xs) : DaOk K bx X H (.ref a) (.ls xs) := ⟨a, vs, rfl, h, d⟩
theorem ok_o {K : PySem.W.Frag} {bx X : Addr → Prop} {H : Hp} {a : Addr} {vs : List V} {xs : List PyData} (hx : X a) (hb : ¬ bx a) (h : H a = some (.lst vs)) (d : DpAll K (core X H) vs xs) : DaOk K bx X H (.ref a) (.o a xs) := ⟨rfl, hx, hb, vs, h, d⟩
theorem da_d {K : PySem.W.Frag} {bx X : Addr → Prop} {H : Hp} {v : V} {x : PyData} (h : DaOk K bx X H v (.d x)) : Dp K (core X H) v x := h
theorem da_ls {K : PySem.W.Frag} {bx X : Addr → Prop} {H : Hp} {v : V} {xs : List PyData} (h : DaOk K bx X H v (.ls xs)) : ∃ a vs, v = .ref a ∧ core X H a = some (.lst vs) ∧ DpAll K (core X H) vs xs := h
theorem da_o {K : PySem.W.Frag} {bx X : Addr → Prop} {H : Hp} {v : V} {D : Addr} {xs : List PyData} (h : DaOk K bx X H v (.o D xs)) : v = .ref D ∧ X D ∧ ¬ bx D ∧ ∃ vs, H D = some (.lst vs) ∧ DpAll K (core X H) vs xs := h
theorem da_pt {K : PySem.W.Frag} {bx X : Addr → Prop} {H : Hp} {v : V} {xs : List PyData} (h : DaOk K bx X H v (.pt xs)) : ∃ a o vs, v = .ref a ∧ core X H a = some (.frz o (.tup vs)) ∧ PlainT o ∧ DpAll K (core X H) vs xs := h
theorem da_m {K : PySem.W.Frag} {bx X : Addr → Prop} {H : Hp} {v : V} {D : Addr} {kvs : List (Key × PyData)} (h : DaOk K bx X H v (.m D kvs)) : v = .ref D ∧ X D ∧ ¬ bx D ∧ ∃ us : List V, H D = some (.dK ((kvs.map (·.1)).zip us)) ∧ DpAll K (core X H) us (kvs.map (·.2)) := h
theorem da_fm {K : PySem.W.Frag} {bx X : Addr → Prop} {H : Hp} {v : V} {kvs : List (Key × PyData)} (h : DaOk K bx X H v (.fm kvs)) : ∃ D us, v = .ref D ∧ core X H D = some (.dK ((kvs.map (·.1)).zip us)) ∧ DpAll K (core X H) us (kvs.map (·.2)) := h
theorem da_fi {K : PySem.W.Frag} {bx X : Addr → Prop} {H : Hp} {v : V} {C : Addr} {fs : List (Str × Fd)} (h : DaOk K bx X H v (.fi C fs)) : ∃ a dx vs, v = .ref a ∧ core X H a = some (.ins C dx vs) ∧ FdAll K (core X H) vs fs := h
theorem da_i {K : PySem.W.Frag} {bx X : Addr → Prop} {H : Hp} {v : V} {D C : Addr} {fs : List (Str × Fd)} (h : DaOk K bx X H v (.i D C fs)) : v = .ref D ∧ X D ∧ ¬ bx D ∧ ∃ dx vs, H D = some (.ins C dx vs) ∧ FdAll K (core X H) vs fs := h
theorem sqt_frz {K : PySem.W.Frag} {H : Hp} {a : Addr} {o : Obj} {vs : List V} (h : H a = some (.frz o (.tup vs))) : SqT K H a vs := .inl (.inr ⟨o, h⟩)
section
variable (K : PySem.W.Frag) (bx X0 : Addr → Prop) (H0 : Hp)
def W (t : TE) (ρ : Rho) (Φ : Dat → Prop) : Prop := ∀ (X : Addr → Prop) (H : Hp) (σ : L2.St), En K bx X0 H0 X H σ ρ → ∀ Q : VK, (∀ v x H', Fr bx H H' → DaOk K bx X H' v x → Φ x → Q v H') → t σ H Q
def WA (t : TA) (ρ : Rho) (Φ : List Dat → Prop) : Prop := ∀ (X : Addr → Prop) (H : Hp) (σ : L2.St), En K bx X0 H0 X H σ ρ → ∀ Q : List V → Hp → Prop, (∀ vs xs H', Fr bx H H' → DaAll K bx X H' vs xs → Φ xs → Q vs H') → t σ H Q
def WT (t : TT) (ρ : Rho) (Φ : Bool → Prop) : Prop := ∀ (X : Addr → Prop) (H : Hp) (σ : L2.St), En K bx X0 H0 X H σ ρ → ∀ Q : Bool → Hp → Prop, (∀ b H', Fr bx H H' → Φ b → Q b H') → t σ H Q
/-- a new list, nobody else's -/
def WF (t : TE) (ρ : Rho) (Φ : List PyData → Prop) : Prop := ∀ (X : Addr → Prop) (H : Hp) (σ : L2.St), En K bx X0 H0 X H σ ρ → ∀ Q : VK, (∀ D vs xs H', Fr bx H H' → H D = none → H' D = some (.lst vs) → DpAll K (core (fun b => X b ∨ b = D) H') vs xs → Φ xs → Q (.ref D) H') → t σ H Q
end
section
variable {K : PySem.W.Frag} {bx X0 : Addr → Prop} {H0 : Hp} {ρ : Rho} {Φ Ψ : Dat → Prop}
theorem W.mono {t : TE} (h : W K bx X0 H0 t ρ Φ) (i : ∀ x, Φ x → Ψ x) : W K bx X0 H0 t ρ Ψ := fun X H σ e Q q => h X H σ e Q fun v x H' f d p => q v x H' f d (i x p)
theorem WT.mono {t : TT} {Φ Ψ : Bool → Prop} (h : WT K bx X0 H0 t ρ Φ) (i : ∀ x, Φ x → Ψ x) : WT K bx X0 H0 t ρ Ψ := fun X H σ e Q q => h X H σ e Q fun b H' f p => q b H' f (i b p)
theorem WF.mono {t : TE} {Φ Ψ : List PyData → Prop} (h : WF K bx X0 H0 t ρ Φ) (i : ∀ x, Φ x → Ψ x) : WF K bx X0 H0 t ρ Ψ := fun X H σ e Q q => h X H σ e Q fun D vs xs H' f n a d p => q D vs xs H' f n a d (i xs p)
theorem w_var {i : Nat} {x : Dat} (h : ρ[i]? = some (some x)) (q : Φ x) : W K bx X0 H0 (tVar i) ρ Φ := fun X H σ e Q k =>
  let ⟨v, h1, h2⟩ := e.at_ i x h
  ⟨v, h1, k v x H (.refl H) h2 q⟩
theorem w_int {n : Int} (q : Φ (.d (.int n))) : W K bx X0 H0 (tC (.int n)) ρ Φ := fun X H σ e Q k => k _ _ H (.refl H) (ok_d (Dp.int n)) q
theorem w_bl {b : Bool} (q : Φ (.d (.bool b))) : W K bx X0 H0 (tC (.bl b)) ρ Φ := fun X H σ e Q k => k _ _ H (.refl H) (ok_d (Dp.bl b)) q
theorem w_str {x : Str} (q : Φ (.d (.str x))) : W K bx X0 H0 (tC (.str x)) ρ Φ := fun X H σ e Q k => k _ _ H (.refl H) (ok_d (Dp.str x)) q
theorem w_non (q : Φ (.d .none)) : W K bx X0 H0 (tC .non) ρ Φ := fun X H σ e Q k => k _ _ H (.refl H) (ok_d Dp.non) q
theorem wa_nil {Φ : List Dat → Prop} (q : Φ []) : WA K bx X0 H0 tNil ρ Φ := fun X H σ e Q k => k _ _ H (.refl H) .nil q
theorem wa_cons {t : TE} {r : TA} {Φ : List Dat → Prop} (h : W K bx X0 H0 t ρ fun x => WA K bx X0 H0 r ρ fun xs => Φ (x :: xs)) : WA K bx X0 H0 (tCons t r) ρ Φ := fun X H σ e Q k =>
  h X H σ e _ fun v x H1 f1 d1 q1 => q1 X H1 σ (e.go f1) _ fun vs xs H2 f2 d2 q2 => k _ _ H2 (f1.trans f2) (.cons (da_fr f2 e.sub d1) d2) q2
/-! what is data of it -/
/-- the datum of what is no list that may still change -/
def dat? : Dat → Option PyData
  | .d x => some x
  | .ls xs => some (.list xs)
  | .pt xs => some (.tuple xs)
  | _ => none
theorem da_dp {X : Addr → Prop} {H : Hp} {v : V} : ∀ {x : Dat} {y : PyData}, DaOk K bx X H v x → dat? x = some y → Dp K (core X H) v y
  | .d x, _, h, e => by
    cases e
    exact h
  | .ls xs, _, h, e => by
    obtain ⟨a, vs, rfl, h1, h2⟩ := da_ls h
    cases e
    exact .lst (SqL.of h1) h2
  | .pt xs, _, h, e => by
    obtain ⟨a, o, vs, rfl, h1, _, h2⟩ := da_pt h
    cases e
    exact .tup (sqt_frz h1) h2
def dats? : List Dat → Option (List PyData)
  | [] => some []
  | x :: r => match dat? x, dats? r with
    | some y, some ys => some (y :: ys)
    | _, _ => none
theorem daAll_dp {X : Addr → Prop} {H : Hp} : ∀ {vs : List V} {xs : List Dat} {ys : List PyData}, DaAll K bx X H vs xs → dats? xs = some ys → DpAll K (core X H) vs ys
  | _, [], _, .nil, e => by
    cases e
    exact .nil
  | _, x :: r, ys, .cons a b, e => by
    unfold dats? at e
    cases e1 : dat? x with
    | none =>
      rw [e1] at e
      cases e
    | some y =>
      cases e2 : dats? r with
      | none =>
        rw [e1, e2] at e
        cases e
      | some zs =>
        rw [e1, e2] at e
        cases e
        exact .cons (da_dp a e1) (daAll_dp b e2)
theorem w_tup {t : TA} (h : WA K bx X0 H0 t ρ fun xs => ∃ ys, dats? xs = some ys ∧ ys.length ≤ 100000 ∧ Φ (.d (.tuple ys))) : W K bx X0 H0 (tTup t) ρ Φ := fun X H σ e Q k =>
  h X H σ e _ fun vs xs H1 f d ⟨ys, e1, l, q⟩ => by
    have dd := daAll_dp d e1
    have big : 100000 ≤ sizeLine := by decide
    refine ⟨by rw [dpAll_len dd]; omega, fun p n => k _ _ _ (f.new n) (ok_d (x := .tuple ys) ?_) q⟩
    exact .tup (SqT.of (core_of ((e.toEnX.go f).no n) upd_same fun ps z => by cases z)) (dpAll_mono (core_fr (bx := bx) (.of (same_new n)) e.sub) _ _ dd)
theorem wf_lst {t : TA} {Φ : List PyData → Prop} (h : WA K bx X0 H0 t ρ fun xs => ∃ ys, dats? xs = some ys ∧ ys.length ≤ 100000 ∧ Φ ys) : WF K bx X0 H0 (tLst t) ρ Φ := fun X H σ e Q k =>
  h X H σ e _ fun vs xs H1 f d ⟨ys, e1, l, q⟩ => by
    have dd := daAll_dp d e1
    have big : 100000 ≤ sizeLine := by decide
    refine ⟨by rw [dpAll_len dd]; omega, fun p n => k p vs ys _ (f.new n) (f.free n) upd_same ?_ q⟩
    rw [core_upd (.inr rfl)]
    refine dpAll_mono (fun b o z => ?_) _ _ dd
    obtain ⟨n1, z1, z2⟩ := core_some z
    exact core_of (fun g => g.elim n1 fun g => by rw [g, n] at z1; cases z1) z1 z2
theorem w_of_wf {t : TE} (h : WF K bx X0 H0 t ρ fun xs => Φ (.ls xs)) : W K bx X0 H0 t ρ Φ := fun X H σ e Q k =>
  h X H σ e Q fun D vs xs H' f n a d q => k _ _ H' f (ok_ls (core_of (e.no n) a fun ps z => (by cases z)) (dpAll_mono (core_sub fun b z => .inl z) _ _ d)) q
/-! two values and an operator -/
theorem w_op {r : R2} {a b : TE} (h : W K bx X0 H0 a ρ fun x => W K bx X0 H0 b ρ fun y => ∀ X H, EnX bx X0 H0 X H → ∀ v u, DaOk K bx X H v x → DaOk K bx X H u y → ∀ Q : VK, (∀ v x H', Fr bx H H' → DaOk K bx X H' v x → Φ x → Q v H') → r v u H Q) : W K bx X0 H0 (tOp r a b) ρ Φ := fun X H σ e Q k =>
  h X H σ e _ fun v x H1 f1 d1 q1 => q1 X H1 σ (e.go f1) _ fun u y H2 f2 d2 q2 => q2 X H2 (e.toEnX.go (f1.trans f2)) v u (da_fr f2 e.sub d1) d2 Q fun w z H3 f3 => k w z H3 (f1.trans (f2.trans f3))
/-- two whole numbers -/
theorem w_i0 {g : Int → Int → V} {gd : Int → Int → PyData} {a b : TE} (hg : ∀ i j K H, Dp K H (g i j) (gd i j)) (h : W K bx X0 H0 a ρ fun x => W K bx X0 H0 b ρ fun y => ∃ i j, x = .d (.int i) ∧ y = .d (.int j) ∧ Φ (.d (gd i j))) : W K bx X0 H0 (tOp (rI0 g) a b) ρ Φ :=
  w_op (h.mono fun x q0 => W.mono q0 fun y ⟨i, j, e1, e2, q2⟩ X H E v u d1 d2 Q k => by
    subst e1 e2
    cases da_d d1
    cases da_d d2
    exact ⟨i, j, rfl, rfl, k _ _ H (.refl H) (ok_d (hg i j K _)) q2⟩)
theorem w_iC {C : Int → Int → Prop} {g : Int → Int → V} {gd : Int → Int → PyData} {a b : TE} (hg : ∀ i j K H, Dp K H (g i j) (gd i j)) (h : W K bx X0 H0 a ρ fun x => W K bx X0 H0 b ρ fun y => ∃ i j, x = .d (.int i) ∧ y = .d (.int j) ∧ C i j ∧ Φ (.d (gd i j))) : W K bx X0 H0 (tOp (rI C g) a b) ρ Φ :=
  w_op (h.mono fun x q0 => W.mono q0 fun y ⟨i, j, e1, e2, c, q2⟩ X H E v u d1 d2 Q k => by
    subst e1 e2
    cases da_d d1
    cases da_d d2
    exact ⟨i, j, rfl, rfl, c, k _ _ H (.refl H) (ok_d (hg i j K _)) q2⟩)
theorem w_add {a b : TE} (h : W K bx X0 H0 a ρ fun x => W K bx X0 H0 b ρ fun y => ∃ i j, x = .d (.int i) ∧ y = .d (.int j) ∧ Φ (.d (.int (i + j)))) : W K bx X0 H0 (tOp (rI0 fun i j => .int (i + j)) a b) ρ Φ := w_i0 (gd := fun i j => .int (i + j)) (fun i j _ _ => .int _) h
theorem w_sub {a b : TE} (h : W K bx X0 H0 a ρ fun x => W K bx X0 H0 b ρ fun y => ∃ i j, x = .d (.int i) ∧ y = .d (.int j) ∧ Φ (.d (.int (i - j)))) : W K bx X0 H0 (tOp (rI0 fun i j => .int (i - j)) a b) ρ Φ := w_i0 (gd := fun i j => .int (i - j)) (fun i j _ _ => .int _) h
theorem w_lt {a b : TE} (h : W K bx X0 H0 a ρ fun x => W K bx X0 H0 b ρ fun y => ∃ i j, x = .d (.int i) ∧ y = .d (.int j) ∧ Φ (.d (.bool (decide (i < j))))) : W K bx X0 H0 (tOp (rI0 fun i j => .bl (decide (i < j))) a b) ρ Φ := w_i0 (gd := fun i j => .bool (decide (i < j))) (fun i j _ _ => .bl _) h
theorem w_le {a b : TE} (h : W K bx X0 H0 a ρ fun x => W K bx X0 H0 b ρ fun y => ∃ i j, x = .d (.int i) ∧ y = .d (.int j) ∧ Φ (.d (.bool (decide (i ≤ j))))) : W K bx X0 H0 (tOp (rI0 fun i j => .bl (decide (i ≤ j))) a b) ρ Φ := w_i0 (gd := fun i j => .bool (decide (i ≤ j))) (fun i j _ _ => .bl _) h
theorem w_gt {a b : TE} (h : W K bx X0 H0 a ρ fun x => W K bx X0 H0 b ρ fun y => ∃ i j, x = .d (.int i) ∧ y = .d (.int j) ∧ Φ (.d (.bool (decide (j < i))))) : W K bx X0 H0 (tOp (rI0 fun i j => .bl (decide (j < i))) a b) ρ Φ := w_i0 (gd := fun i j => .bool (decide (j < i))) (fun i j _ _ => .bl _) h
theorem w_ge {a b : TE} (h : W K bx X0 H0 a ρ fun x => W K bx X0 H0 b ρ fun y => ∃ i j, x = .d (.int i) ∧ y = .d (.int j) ∧ Φ (.d (.bool (decide (j ≤ i))))) : W K bx X0 H0 (tOp (rI0 fun i j => .bl (decide (j ≤ i))) a b) ρ Φ := w_i0 (gd := fun i j => .bool (decide (j ≤ i))) (fun i j _ _ => .bl _) h
theorem w_mod {a b : TE} (h : W K bx X0 H0 a ρ fun x => W K bx X0 H0 b ρ fun y => ∃ i j, x = .d (.int i) ∧ y = .d (.int j) ∧ 0 < j ∧ Φ (.d (.int (i % j)))) : W K bx X0 H0 (tOp (rI (fun _ j => 0 < j) fun i j => .int (i % j)) a b) ρ Φ := w_iC (C := fun _ j => 0 < j) (gd := fun i j => .int (i % j)) (fun i j _ _ => .int _) h
theorem w_fdiv {a b : TE} (h : W K bx X0 H0 a ρ fun x => W K bx X0 H0 b ρ fun y => ∃ i j, x = .d (.int i) ∧ y = .d (.int j) ∧ CDiv i j ∧ Φ (.d (.int (i / j)))) : W K bx X0 H0 (tOp (rI CDiv fun i j => .int (i / j)) a b) ρ Φ := w_iC (C := CDiv) (gd := fun i j => .int (i / j)) (fun i j _ _ => .int _) h
theorem w_mul {a b : TE} (h : W K bx X0 H0 a ρ fun x => W K bx X0 H0 b ρ fun y => ∃ i j, x = .d (.int i) ∧ y = .d (.int j) ∧ CMul i j ∧ Φ (.d (.int (i * j)))) : W K bx X0 H0 (tOp (rI CMul fun i j => .int (i * j)) a b) ρ Φ := w_iC (C := CMul) (gd := fun i j => .int (i * j)) (fun i j _ _ => .int _) h
/-- data beside one another -/
theorem w_eqD {a b : TE} (h : W K bx X0 H0 a ρ fun x => W K bx X0 H0 b ρ fun y => ∃ c e, dat? x = some c ∧ dat? y = some e ∧ SeqAt.shaped c = true ∧ SeqAt.shaped e = true ∧ Φ (.d (.bool (PyData.eqv c e)))) : W K bx X0 H0 (tOp (rEqD K) a b) ρ Φ :=
  w_op (h.mono fun x q0 => W.mono q0 fun y ⟨c, e, e1, e2, s1, s2, q⟩ X H E v u d1 d2 Q k => ⟨c, e, dp_mono core_le _ _ (da_dp d1 e1), dp_mono core_le _ _ (da_dp d2 e2), s1, s2, k _ _ H (.refl H) (ok_d (Dp.bl _)) q⟩)
theorem w_neD {a b : TE} (h : W K bx X0 H0 a ρ fun x => W K bx X0 H0 b ρ fun y => ∃ c e, dat? x = some c ∧ dat? y = some e ∧ SeqAt.shaped c = true ∧ SeqAt.shaped e = true ∧ Φ (.d (.bool (!PyData.eqv c e)))) : W K bx X0 H0 (tOp (rNeD K) a b) ρ Φ :=
  w_op (h.mono fun x q0 => W.mono q0 fun y ⟨c, e, e1, e2, s1, s2, q⟩ X H E v u d1 d2 Q k => ⟨c, e, dp_mono core_le _ _ (da_dp d1 e1), dp_mono core_le _ _ (da_dp d2 e2), s1, s2, k _ _ H (.refl H) (ok_d (Dp.bl _)) q⟩)
/-- a value that is flat: a number, a text, a bool, None -/
def flat? : PyData → Option V
  | .none => some .non
  | .bool b => some (.bl b)
  | .int i => some (.int i)
  | .str x => some (.str x)
  | _ => none
theorem dp_flat {H : Hp} {v u : V} : ∀ {x : PyData}, Dp K H v x → flat? x = some u → v = u
  | .none, h, e => by cases h; cases e; rfl
  | .bool b, h, e => by cases h; cases e; rfl
  | .int i, h, e => by cases h; cases e; rfl
  | .str x, h, e => by cases h; cases e; rfl
/-- the items, where it is a list or a tuple -/
def seq? : Dat → Option (List PyData)
  | .d (.list xs) => some xs
  | .d (.tuple xs) => some xs
  | .ls xs => some xs
  | .pt xs => some xs
  | .o _ xs => some xs
  | _ => none
theorem da_seq {X : Addr → Prop} {H : Hp} {v : V} : ∀ {x : Dat} {ys : List PyData}, DaOk K bx X H v x → seq? x = some ys → ∃ a vs, v = .ref a ∧ Sq K H a vs ∧ DpAll K (core X H) vs ys
  | .d (.list xs), _, h, e => by
    cases e
    replace h := da_d h
    cases h with
    | lst h1 h2 => exact ⟨_, _, rfl, .inl (core_le.seq h1), h2⟩
  | .d (.tuple xs), _, h, e => by
    cases e
    replace h := da_d h
    cases h with
    | tup h1 h2 => exact ⟨_, _, rfl, .inr (grow_sqT (grow_same core_le) h1), h2⟩
  | .ls xs, _, h, e => by
    obtain ⟨a, vs, rfl, h1, h2⟩ := da_ls h
    cases e
    exact ⟨a, vs, rfl, .inl (SqL.of (core_le _ _ h1)), h2⟩
  | .pt xs, _, h, e => by
    obtain ⟨a, o, vs, rfl, h1, _, h2⟩ := da_pt h
    cases e
    exact ⟨a, vs, rfl, .inr (grow_sqT (grow_same core_le) (sqt_frz h1)), h2⟩
  | .o D xs, _, h, e => by
    obtain ⟨rfl, _, _, vs, h1, h2⟩ := da_o h
    cases e
    exact ⟨D, vs, rfl, .inl (SqL.of h1), h2⟩
/-- the same, where it stays while the core does -/
theorem da_seqC {X : Addr → Prop} {H : Hp} {v : V} : ∀ {x : Dat} {y : PyData} {ys : List PyData}, DaOk K bx X H v x → dat? x = some y → seq? x = some ys → ∃ a vs, v = .ref a ∧ Sq K (core X H) a vs ∧ DpAll K (core X H) vs ys
  | .d (.list xs), _, _, h, _, e => by
    cases e
    replace h := da_d h
    cases h with
    | lst h1 h2 => exact ⟨_, _, rfl, .inl h1, h2⟩
  | .d (.tuple xs), _, _, h, _, e => by
    cases e
    replace h := da_d h
    cases h with
    | tup h1 h2 => exact ⟨_, _, rfl, .inr h1, h2⟩
  | .ls xs, _, _, h, _, e => by
    obtain ⟨a, vs, rfl, h1, h2⟩ := da_ls h
    cases e
    exact ⟨a, vs, rfl, .inl (SqL.of h1), h2⟩
  | .pt xs, _, _, h, _, e => by
    obtain ⟨a, o, vs, rfl, h1, _, h2⟩ := da_pt h
    cases e
    exact ⟨a, vs, rfl, .inr (sqt_frz h1), h2⟩
  | .o D xs, _, _, _, e, _ => by cases e
/-- the item at a place, from behind if it is below 0 -/
def atD (xs : List PyData) (i : Int) : Option PyData := if 0 ≤ i then xs[i.toNat]? else if 0 ≤ i + xs.length then xs[(i + xs.length).toNat]? else none
end
end Say

set_option Elab.async false
set_option linter.all false
set_option maxRecDepth 100000
set_option maxHeartbeats 4000000
namespace Say
open PySem PySem.Spec PyProof.Rows L2
/-! ### isinstance(e, T) of data, T a built-in class -/
def isD (T : String) (d : PyData) : Bool := (kitB (kind d) T).getD false
theorem kit_there : (["NoneType", "bool", "int", "str", "list", "tuple"].all fun k => ["int", "bool", "str", "tuple", "list"].all fun T => (kitB k T).isSome) = true := by decide +kernel
theorem isi_any {K : PySem.W.Frag} {H : Hp} {v : V} {d : PyData} {T : String} {Q : VK} (h : Dp K H v d) (hT : T ∈ ["int", "bool", "str", "tuple", "list"]) (q : Q (.bl (isD T d)) H) : rIsi K [v, .ty T] H Q := by
  refine isi_data h (fun k hk e => kit_ty ?_) q
  have z := List.all_eq_true.mp (List.all_eq_true.mp kit_there k hk) T hT
  subst e
  unfold isD
  cases y : kitB (kind d) T with
  | none =>
    rw [y] at z
    cases z
  | some b => rfl
theorem isD_int (d : PyData) : isD "int" d = (match d with | .int _ | .bool _ => true | _ => false) := by
  cases d
  · show (kitB "NoneType" "int").getD false = false; decide +kernel
  · show (kitB "bool" "int").getD false = true; decide +kernel
  · show (kitB "int" "int").getD false = true; decide +kernel
  · show (kitB "str" "int").getD false = false; decide +kernel
  · show (kitB "list" "int").getD false = false; decide +kernel
  · show (kitB "tuple" "int").getD false = false; decide +kernel
  · show (kitB "dict" "int").getD false = false; decide +kernel
theorem isD_bool (d : PyData) : isD "bool" d = (match d with | .bool _ => true | _ => false) := by
  cases d
  · show (kitB "NoneType" "bool").getD false = false; decide +kernel
  · show (kitB "bool" "bool").getD false = true; decide +kernel
  · show (kitB "int" "bool").getD false = false; decide +kernel
  · show (kitB "str" "bool").getD false = false; decide +kernel
  · show (kitB "list" "bool").getD false = false; decide +kernel
  · show (kitB "tuple" "bool").getD false = false; decide +kernel
  · show (kitB "dict" "bool").getD false = false; decide +kernel
theorem isD_tuple (d : PyData) : isD "tuple" d = (match d with | .tuple _ => true | _ => false) := by
  cases d
  · show (kitB "NoneType" "tuple").getD false = false; decide +kernel
  · show (kitB "bool" "tuple").getD false = false; decide +kernel
  · show (kitB "int" "tuple").getD false = false; decide +kernel
  · show (kitB "str" "tuple").getD false = false; decide +kernel
  · show (kitB "list" "tuple").getD false = false; decide +kernel
  · show (kitB "tuple" "tuple").getD false = true; decide +kernel
  · show (kitB "dict" "tuple").getD false = false; decide +kernel
theorem isD_list (d : PyData) : isD "list" d = (match d with | .list _ => true | _ => false) := by
  cases d
  · show (kitB "NoneType" "list").getD false = false; decide +kernel
  · show (kitB "bool" "list").getD false = false; decide +kernel
  · show (kitB "int" "list").getD false = false; decide +kernel
  · show (kitB "str" "list").getD false = false; decide +kernel
  · show (kitB "list" "list").getD false = true; decide +kernel
  · show (kitB "tuple" "list").getD false = false; decide +kernel
  · show (kitB "dict" "list").getD false = false; decide +kernel
theorem isD_str (d : PyData) : isD "str" d = (match d with | .str _ => true | _ => false) := by
  cases d
  · show (kitB "NoneType" "str").getD false = false; decide +kernel
  · show (kitB "bool" "str").getD false = false; decide +kernel
  · show (kitB "int" "str").getD false = false; decide +kernel
  · show (kitB "str" "str").getD false = true; decide +kernel
  · show (kitB "list" "str").getD false = false; decide +kernel
  · show (kitB "tuple" "str").getD false = false; decide +kernel
  · show (kitB "dict" "str").getD false = false; decide +kernel
/-- the reading of isinstance(e, T) -/
def tIsi (K : PySem.W.Frag) (T : String) (te : TE) : TE := tCB (rIsi K) (tCons te (tCons (tC (.ty T)) tNil))
theorem pe_isi {X : Cx} {e : Expr} {te : TE} {p p2 pos : Pos} {x : Str} {T : String} (he : PE X e te) (gi : X.mg "isinstance" = none) (gT : X.mg x = none) (hb : bootBuiltins x = some (.type T))
    (h1 : Gl X "isinstance" := by rfl) (h2 : Gl X x := by rfl) (hn : x ≠ "__name__" := by decide) (hd : (x == ("__debug__" : Str)) = false := by decide)
    (hs : starEach [e, .Name x p2] X.env = (false, eval e X.env) :: starEach [.Name x p2] X.env := by rfl) (hs2 : starEach [.Name x p2] X.env = (false, eval (.Name x p2) X.env) :: starEach [] X.env := by rfl)
    (hpl : (backTo pos (starEach [.Name x p2] X.env)).any (·.1) = false := by rfl) :
    PE X (.Call (.Name "isinstance" p) [e, .Name x p2] [] pos) (tIsi X.K T te) :=
  pe_callB call_isi h1 gi (by decide +kernel) (pa_cons he (pa_cons (pe_bltn (v := .ty T) h2 gT hb rfl hn hd) pa_nil hs2) hs) (by decide) (by decide) hs hpl
theorem isi_var {K : PySem.W.Frag} {H : Hp} {σ : L2.St} {i : Nat} {v : V} {d : PyData} {T : String} {b : Bool} {Q : VK} (e : σ[i]? = some (some v)) (h : Dp K H v d) (hT : T ∈ ["int", "bool", "str", "tuple", "list"]) (hb : isD T d = b) (q : Q (.bl b) H) :
    tIsi K T (tVar i) σ H Q := ⟨v, e, isi_any (Q := Q) h hT (by rw [hb]; exact q)⟩
end Say

set_option Elab.async false
set_option linter.all false
set_option maxRecDepth 100000
set_option maxHeartbeats 4000000
namespace Say
open PySem PySem.Spec PyProof.Rows L2
section
variable {K : PySem.W.Frag} {bx X0 : Addr → Prop} {H0 : Hp} {ρ : Rho} {Φ Ψ : Dat → Prop}
theorem ixN_len {n m : Nat} {i : Int} (h : n = m) : ixN n i = ixN m i := by rw [h]
theorem dpAll_atI {H : Hp} {vs : List V} {ds : List PyData} {i : Int} {d : PyData} (h : DpAll K H vs ds) (e : atI ds i = some d) : ∃ v, atI vs i = some v ∧ Dp K H v d := by
  unfold atI at e ⊢
  rw [dpAll_len h]
  cases e1 : ixN ds.length i with
  | none =>
    rw [e1] at e
    cases e
  | some j =>
    rw [e1] at e
    exact dpAll_at h e
theorem w_ix {a b : TE} (h : W K bx X0 H0 a ρ fun x => W K bx X0 H0 b ρ fun y => ∃ xs i d, seq? x = some xs ∧ y = .d (.int i) ∧ atI xs i = some d ∧ Φ (.d d)) : W K bx X0 H0 (tOp (rIxS2 K) a b) ρ Φ :=
  w_op (h.mono fun x q0 => W.mono q0 fun y ⟨xs, i, d, e1, e2, e3, q⟩ X H E v u d1 d2 Q k => by
    subst e2
    cases da_d d2
    obtain ⟨a, vs, rfl, h1, h2⟩ := da_seq d1 e1
    obtain ⟨w, hw, dw⟩ := dpAll_atI h2 e3
    exact ix_at h1 hw (k w _ H (.refl H) (ok_d dw) q))
theorem dp_ints' {H : Hp} {vs : List V} {ns : List Int} (h : DpAll K H vs (ns.map PyData.int)) : vs = ns.map V.int := dp_ints h
theorem w_inI {a b : TE} (h : W K bx X0 H0 a ρ fun x => W K bx X0 H0 b ρ fun y => ∃ (i : Int) (ns : List Int), x = .d (.int i) ∧ seq? y = some (ns.map PyData.int) ∧ Φ (.d (.bool (decide (i ∈ ns))))) : W K bx X0 H0 (tOp (rIn K false) a b) ρ Φ :=
  w_op (h.mono fun x q0 => W.mono q0 fun y ⟨i, ns, e1, e2, q⟩ X H E v u d1 d2 Q k => by
    subst e1
    cases da_d d1
    obtain ⟨a, vs, rfl, h1, h2⟩ := da_seq d2 e2
    have := dp_ints h2
    subst this
    exact in_ints h1 (k _ _ H (.refl H) (ok_d (Dp.bl _)) q))
theorem w_ninI {a b : TE} (h : W K bx X0 H0 a ρ fun x => W K bx X0 H0 b ρ fun y => ∃ (i : Int) (ns : List Int), x = .d (.int i) ∧ seq? y = some (ns.map PyData.int) ∧ Φ (.d (.bool (!decide (i ∈ ns))))) : W K bx X0 H0 (tOp (rIn K true) a b) ρ Φ :=
  w_op (h.mono fun x q0 => W.mono q0 fun y ⟨i, ns, e1, e2, q⟩ X H E v u d1 d2 Q k => by
    subst e1
    cases da_d d1
    obtain ⟨a, vs, rfl, h1, h2⟩ := da_seq d2 e2
    have := dp_ints h2
    subst this
    exact notIn_ints h1 (k _ _ H (.refl H) (ok_d (Dp.bl _)) q))
theorem bls_dp {H : Hp} : ∀ {vs : List V} {bs : List Bool}, DpAll K H vs (bs.map PyData.bool) → vs = bs.map V.bl
  | _, [], h => by cases h; rfl
  | _, b :: bs, h => by
    cases h with
    | cons h1 h2 =>
      cases h1
      rw [List.map_cons, bls_dp h2]
theorem inV_bls (b : Bool) (bs : List Bool) : inV (.bl b) (bs.map V.bl) = decide (b ∈ bs) := by
  unfold inV
  induction bs with
  | nil => rfl
  | cons c bs ih =>
    rw [List.map_cons, List.any_cons, ih]
    show (c == b || _) = _
    by_cases h : c = b
    · subst h
      simp
    · simp [h, Ne.symm h]
theorem flat_bls (bs : List Bool) : (bs.map V.bl).all flatV = true := by
  rw [List.all_map]
  exact List.all_eq_true.mpr fun _ _ => rfl
/-- False in [..], True in [..] -/
theorem w_inB {a b : TE} (h : W K bx X0 H0 a ρ fun x => W K bx X0 H0 b ρ fun y => ∃ (i : Bool) (ns : List Bool), x = .d (.bool i) ∧ seq? y = some (ns.map PyData.bool) ∧ Φ (.d (.bool (decide (i ∈ ns))))) : W K bx X0 H0 (tOp (rIn K false) a b) ρ Φ :=
  w_op (h.mono fun x q0 => W.mono q0 fun y ⟨i, ns, e1, e2, q⟩ X H E v u d1 d2 Q k => by
    subst e1
    cases da_d d1
    obtain ⟨a, vs, rfl, h1, h2⟩ := da_seq d2 e2
    have := bls_dp h2
    subst this
    exact ⟨a, _, rfl, h1, rfl, flat_bls ns, by
      show Q (.bl (inV (.bl i) (ns.map V.bl))) H
      rw [inV_bls]
      exact k _ _ H (.refl H) (ok_d (Dp.bl _)) q⟩)
theorem strs_dp {H : Hp} : ∀ {vs : List V} {bs : List Str}, DpAll K H vs (bs.map PyData.str) → vs = bs.map V.str
  | _, [], h => by cases h; rfl
  | _, b :: bs, h => by
    cases h with
    | cons h1 h2 =>
      cases h1
      rw [List.map_cons, strs_dp h2]
/-! tests -/
theorem wt_yes {Φ : Bool → Prop} (q : Φ true) : WT K bx X0 H0 tYes ρ Φ := fun X H σ e Q k => k _ H (.refl H) q
theorem wt_b {t : TE} {Φ : Bool → Prop} (h : W K bx X0 H0 t ρ fun x => ∃ b, x = .d (.bool b) ∧ Φ b) : WT K bx X0 H0 (tB t) ρ Φ := fun X H σ e Q k =>
  h X H σ e _ fun v x H1 f d ⟨b, e1, q⟩ => by
    subst e1
    cases da_d d
    exact ⟨b, rfl, k b H1 f q⟩
theorem wt_test {t : TE} {Φ : Bool → Prop} (h : W K bx X0 H0 t ρ fun x => ∃ b, x = .d (.bool b) ∧ Φ b) : WT K bx X0 H0 (tTest t) ρ Φ := wt_b h
theorem wt_not {t : TT} {Φ : Bool → Prop} (h : WT K bx X0 H0 t ρ fun b => Φ (!b)) : WT K bx X0 H0 (tNot t) ρ Φ := fun X H σ e Q k => h X H σ e _ fun b H1 f q => k _ H1 f q
theorem wt_and {t u : TT} {Φ : Bool → Prop} (h : WT K bx X0 H0 t ρ fun b => (b = true → WT K bx X0 H0 u ρ Φ) ∧ (b = false → Φ false)) : WT K bx X0 H0 (tAnd t u) ρ Φ := fun X H σ e Q k =>
  h X H σ e _ fun b H1 f q => ite2 (fun c => q.1 c X H1 σ (e.go f) Q fun b2 H2 f2 => k b2 H2 (f.trans f2)) fun c => k _ H1 f (q.2 (by simpa using c))
theorem wt_or {t u : TT} {Φ : Bool → Prop} (h : WT K bx X0 H0 t ρ fun b => (b = true → Φ true) ∧ (b = false → WT K bx X0 H0 u ρ Φ)) : WT K bx X0 H0 (tOr t u) ρ Φ := fun X H σ e Q k =>
  h X H σ e _ fun b H1 f q => ite2 (fun c => k _ H1 f (q.1 c)) fun c => q.2 (by simpa using c) X H1 σ (e.go f) Q fun b2 H2 f2 => k b2 H2 (f.trans f2)
theorem w_andV {a b : TE} (h : W K bx X0 H0 a ρ fun x => ∃ c, x = .d (.bool c) ∧ (c = true → W K bx X0 H0 b ρ Φ) ∧ (c = false → Φ (.d (.bool false)))) : W K bx X0 H0 (tAndV a b) ρ Φ := fun X H σ e Q k =>
  h X H σ e _ fun v x H1 f d ⟨c, e1, q1, q2⟩ => by
    subst e1
    cases da_d d
    exact ⟨c, rfl, ite2 (fun z => q1 z X H1 σ (e.go f) Q fun v x H2 f2 => k v x H2 (f.trans f2)) fun z => k _ _ H1 f (ok_d (Dp.bl _)) (q2 (by simpa using z))⟩
theorem w_orV {a b : TE} (h : W K bx X0 H0 a ρ fun x => ∃ c, x = .d (.bool c) ∧ (c = true → Φ (.d (.bool true))) ∧ (c = false → W K bx X0 H0 b ρ Φ)) : W K bx X0 H0 (tOrV a b) ρ Φ := fun X H σ e Q k =>
  h X H σ e _ fun v x H1 f d ⟨c, e1, q1, q2⟩ => by
    subst e1
    cases da_d d
    exact ⟨c, rfl, ite2 (fun z => k _ _ H1 f (ok_d (Dp.bl _)) (q1 z)) fun z => q2 (by simpa using z) X H1 σ (e.go f) Q fun v x H2 f2 => k v x H2 (f.trans f2)⟩
theorem w_notV {a : TE} (h : W K bx X0 H0 a ρ fun x => ∃ c, x = .d (.bool c) ∧ Φ (.d (.bool (!c)))) : W K bx X0 H0 (tNotV a) ρ Φ := fun X H σ e Q k =>
  h X H σ e _ fun v x H1 f d ⟨c, e1, q1⟩ => by
    subst e1
    cases da_d d
    exact ⟨c, rfl, k _ _ H1 f (ok_d (Dp.bl _)) q1⟩
theorem w_if {c : TT} {a b : TE} (h : WT K bx X0 H0 c ρ fun z => (z = true → W K bx X0 H0 a ρ Φ) ∧ (z = false → W K bx X0 H0 b ρ Φ)) : W K bx X0 H0 (tIf c a b) ρ Φ := fun X H σ e Q k =>
  h X H σ e _ fun z H1 f q => ite2 (fun y => q.1 y X H1 σ (e.go f) Q fun v x H2 f2 => k v x H2 (f.trans f2)) fun y => q.2 (by simpa using y) X H1 σ (e.go f) Q fun v x H2 f2 => k v x H2 (f.trans f2)
/-- x is None -/
def isN : Dat → Option Bool
  | .d .none => some true
  | .d _ => some false
  | .ls _ => some false
  | .pt _ => some false
  | .o _ _ => some false
  | .m _ _ => some false
  | .fm _ => some false
  | .fi _ _ => some false
  | .i _ _ _ => some false
  | _ => none
theorem dp_isN {X : Addr → Prop} {H : Hp} {v : V} : ∀ {x : Dat} {b : Bool}, DaOk K bx X H v x → isN x = some b → decide (v = .non) = b
  | .d .none, _, h, e => by cases e; cases da_d h; rfl
  | .d (.bool _), _, h, e => by cases e; cases da_d h; rfl
  | .d (.int _), _, h, e => by cases e; cases da_d h; rfl
  | .d (.str _), _, h, e => by cases e; cases da_d h; rfl
  | .d (.list _), _, h, e => by cases e; cases da_d h; rfl
  | .d (.tuple _), _, h, e => by cases e; cases da_d h; rfl
  | .d (.dict _), _, h, e => by cases da_d h
  | .ls _, _, h, e => by obtain ⟨_, _, rfl, _⟩ := da_ls h; cases e; rfl
  | .pt _, _, h, e => by obtain ⟨_, _, _, rfl, _⟩ := da_pt h; cases e; rfl
  | .o _ _, _, h, e => by obtain ⟨rfl, _⟩ := da_o h; cases e; rfl
  | .m _ _, _, h, e => by obtain ⟨rfl, _⟩ := da_m h; cases e; rfl
  | .fm _, _, h, e => by obtain ⟨_, _, rfl, _⟩ := da_fm h; cases e; rfl
  | .fi _ _, _, h, e => by obtain ⟨_, _, _, rfl, _⟩ := da_fi h; cases e; rfl
  | .i _ _ _, _, h, e => by obtain ⟨rfl, _⟩ := da_i h; cases e; rfl
theorem w_isN {a b : TE} (h : W K bx X0 H0 a ρ fun x => W K bx X0 H0 b ρ fun y => ∃ c, y = .d .none ∧ isN x = some c ∧ Φ (.d (.bool c))) : W K bx X0 H0 (tOp (fun x y H Q => y = .non ∧ Q (.bl (decide (x = .non))) H) a b) ρ Φ :=
  w_op (h.mono fun x q0 => W.mono q0 fun y ⟨c, e1, e2, q⟩ X H E v u d1 d2 Q k => by
    subst e1
    cases da_d d2
    refine ⟨rfl, ?_⟩
    rw [dp_isN d1 e2]
    exact k _ _ H (.refl H) (ok_d (Dp.bl _)) q)
theorem w_notN {a b : TE} (h : W K bx X0 H0 a ρ fun x => W K bx X0 H0 b ρ fun y => ∃ c, y = .d .none ∧ isN x = some c ∧ Φ (.d (.bool (!c)))) : W K bx X0 H0 (tOp (fun x y H Q => y = .non ∧ Q (.bl (!decide (x = .non))) H) a b) ρ Φ :=
  w_op (h.mono fun x q0 => W.mono q0 fun y ⟨c, e1, e2, q⟩ X H E v u d1 d2 Q k => by
    subst e1
    cases da_d d2
    refine ⟨rfl, ?_⟩
    rw [dp_isN d1 e2]
    exact k _ _ H (.refl H) (ok_d (Dp.bl _)) q)
/-- two numbers, texts, bools: the same -/
theorem w_eqI {a b : TE} (h : W K bx X0 H0 a ρ fun x => W K bx X0 H0 b ρ fun y => ∃ i j, x = .d (.int i) ∧ y = .d (.int j) ∧ Φ (.d (.bool (decide (i = j))))) : W K bx X0 H0 (tOp rEq a b) ρ Φ :=
  w_op (h.mono fun x q0 => W.mono q0 fun y ⟨i, j, e1, e2, q⟩ X H E v u d1 d2 Q k => by
    subst e1 e2
    cases da_d d1
    cases da_d d2
    refine ⟨rfl, ?_⟩
    have e : decide (V.int i = V.int j) = decide (i = j) := by by_cases c : i = j <;> simp [c]
    rw [e]
    exact k _ _ H (.refl H) (ok_d (Dp.bl _)) q)
theorem w_neI {a b : TE} (h : W K bx X0 H0 a ρ fun x => W K bx X0 H0 b ρ fun y => ∃ i j, x = .d (.int i) ∧ y = .d (.int j) ∧ Φ (.d (.bool (!decide (i = j))))) : W K bx X0 H0 (tOp rNe a b) ρ Φ :=
  w_op (h.mono fun x q0 => W.mono q0 fun y ⟨i, j, e1, e2, q⟩ X H E v u d1 d2 Q k => by
    subst e1 e2
    cases da_d d1
    cases da_d d2
    refine ⟨rfl, ?_⟩
    have e : decide (V.int i = V.int j) = decide (i = j) := by by_cases c : i = j <;> simp [c]
    rw [e]
    exact k _ _ H (.refl H) (ok_d (Dp.bl _)) q)
/-! calls of what is built in -/
theorem w_cb {r : List V → Hp → VK → Prop} {t : TA} (h : WA K bx X0 H0 t ρ fun xs => ∀ X H, EnX bx X0 H0 X H → ∀ vs, DaAll K bx X H vs xs → ∀ Q : VK, (∀ v x H', Fr bx H H' → DaOk K bx X H' v x → Φ x → Q v H') → r vs H Q) : W K bx X0 H0 (tCB r t) ρ Φ := fun X H σ e Q k =>
  h X H σ e _ fun vs xs H1 f d q => q X H1 (e.toEnX.go f) vs d Q fun v x H2 f2 => k v x H2 (f.trans f2)
theorem da1 {X : Addr → Prop} {H : Hp} {vs : List V} {x : Dat} (h : DaAll K bx X H vs [x]) : ∃ v, vs = [v] ∧ DaOk K bx X H v x := by
  cases h with
  | cons a b =>
    cases b
    exact ⟨_, rfl, a⟩
theorem w_len {t : TA} (h : WA K bx X0 H0 t ρ fun xs => ∃ x ys, xs = [x] ∧ seq? x = some ys ∧ Φ (.d (.int (ys.length : Nat)))) : W K bx X0 H0 (tCB (fun xs H Q => ∃ p ys, xs = [.ref p] ∧ (SqL K H p ys ∨ SqT K H p ys) ∧ Q (.int ys.length) H) t) ρ Φ :=
  w_cb fun X H σ e Q k => h X H σ e Q fun vs xs H' f d ⟨x, ys, e1, e2, q⟩ => k vs xs H' f d fun X H E vs da Q k2 => by
    subst e1
    obtain ⟨v, rfl, d1⟩ := da1 da
    obtain ⟨a, us, rfl, h1, h2⟩ := da_seq d1 e2
    exact ⟨a, us, rfl, h1, by rw [dpAll_len h2]; exact k2 _ _ H (.refl H) (ok_d (Dp.int _)) q⟩
theorem w_any {t : TA} (h : WA K bx X0 H0 t ρ fun xs => ∃ bs : List Bool, xs = [.ls (bs.map PyData.bool)] ∧ Φ (.d (.bool (bs.any id)))) : W K bx X0 H0 (tCB (rAny K) t) ρ Φ :=
  w_cb fun X H σ e Q k => h X H σ e Q fun vs xs H' f d ⟨bs, e1, q⟩ => k vs xs H' f d fun X H E vs da Q k2 => by
    subst e1
    obtain ⟨v, rfl, d1⟩ := da1 da
    obtain ⟨a, us, rfl, h1, h2⟩ := da_ls d1
    have := bls_dp h2
    subst this
    exact ⟨a, bs, rfl, SqL.of (core_le _ _ h1), k2 _ _ H (.refl H) (ok_d (Dp.bl _)) q⟩
theorem w_all {t : TA} (h : WA K bx X0 H0 t ρ fun xs => ∃ bs : List Bool, xs = [.ls (bs.map PyData.bool)] ∧ Φ (.d (.bool (bs.all id)))) : W K bx X0 H0 (tCB (rAll K) t) ρ Φ :=
  w_cb fun X H σ e Q k => h X H σ e Q fun vs xs H' f d ⟨bs, e1, q⟩ => k vs xs H' f d fun X H E vs da Q k2 => by
    subst e1
    obtain ⟨v, rfl, d1⟩ := da1 da
    obtain ⟨a, us, rfl, h1, h2⟩ := da_ls d1
    have := bls_dp h2
    subst this
    exact ⟨a, bs, rfl, SqL.of (core_le _ _ h1), k2 _ _ H (.refl H) (ok_d (Dp.bl _)) q⟩
/-- tuple(xs) -/
theorem w_tuple {t : TA} (h : WA K bx X0 H0 t ρ fun xs => ∃ x ys, xs = [x] ∧ seq? x = some ys ∧ Φ (.d (.tuple ys))) : W K bx X0 H0 (tCB (rTup K) t) ρ Φ :=
  w_cb fun X H σ e Q k => h X H σ e Q fun vs xs H' f d ⟨x, ys, e1, e2, q⟩ => k vs xs H' f d fun X H E vs da Q k2 => by
    subst e1
    obtain ⟨v, rfl, d1⟩ := da1 da
    have mk : ∀ {us : List V}, DpAll K (core X H) us ys → ∀ l, H l = none → Q (.ref l) (upd H l (.tup us)) := fun {us} h2 l n => k2 _ _ _ (.of (same_new n)) (ok_d (Dp.tup (SqT.of (core_of (E.no n) upd_same fun ps z => by cases z)) (dpAll_mono (core_fr (bx := bx) (.of (same_new n)) E.sub) _ _ h2))) q
    cases x with
    | d x =>
      cases x with
      | list zs =>
        cases e2
        cases da_d d1 with
        | lst h1 h2 => exact ⟨_, _, rfl, .inl ⟨core_le.seq h1, mk h2⟩⟩
      | tuple zs =>
        cases e2
        cases da_d d1 with
        | tup h1 h2 => exact ⟨_, _, rfl, .inr ⟨grow_sqT (grow_same core_le) h1, k2 _ _ H (.refl H) (ok_d (Dp.tup h1 h2)) q⟩⟩
      | _ => cases e2
    | ls zs =>
      cases e2
      obtain ⟨a, us, rfl, h1, h2⟩ := da_ls d1
      exact ⟨a, us, rfl, .inl ⟨SqL.of (core_le _ _ h1), mk h2⟩⟩
    | pt zs =>
      cases e2
      obtain ⟨a, o, us, rfl, h1, _, h2⟩ := da_pt d1
      exact ⟨a, us, rfl, .inr ⟨grow_sqT (grow_same core_le) (sqt_frz h1), k2 _ _ H (.refl H) (ok_d (Dp.tup (sqt_frz h1) h2)) q⟩⟩
    | o D zs =>
      cases e2
      obtain ⟨rfl, _, _, us, h1, h2⟩ := da_o d1
      exact ⟨D, us, rfl, .inl ⟨SqL.of h1, mk h2⟩⟩
    | _ => cases e2
/-- list(xs) -/
theorem wf_list {t : TA} {Φ : List PyData → Prop} (h : WA K bx X0 H0 t ρ fun xs => ∃ x ys, xs = [x] ∧ seq? x = some ys ∧ Φ ys) : WF K bx X0 H0 (tCB (rLstO K) t) ρ Φ := fun X H σ e Q k =>
  h X H σ e _ fun vs xs H1 f d ⟨x, ys, e1, e2, q⟩ => by
    subst e1
    obtain ⟨v, rfl, d1⟩ := da1 d
    obtain ⟨a, us, rfl, h1, h2⟩ := da_seq d1 e2
    refine ⟨a, us, rfl, h1, fun l n => k l us ys _ (f.new n) (f.free n) upd_same ?_ q⟩
    rw [core_upd (.inr rfl)]
    refine dpAll_mono (fun b o z => ?_) _ _ h2
    obtain ⟨n1, z1, z2⟩ := core_some z
    exact core_of (fun g => g.elim n1 fun g => by rw [g, n] at z1; cases z1) z1 z2
/-- isinstance(x, T) -/
def isT? : Dat → String → Option Bool
  | .d x, T => some (isD T x)
  | .ls _, T => some (isD T (.list []))
  | .o _ _, T => some (isD T (.list []))
  | _, _ => none
theorem w_isi {t : TE} {T : String} (hT : T ∈ ["int", "bool", "str", "tuple", "list"]) (h : W K bx X0 H0 t ρ fun x => ∃ y, dat? x = some y ∧ Φ (.d (.bool (isD T y)))) : W K bx X0 H0 (tIsi K T t) ρ Φ := fun X H σ e Q k =>
  h X H σ e _ fun v x H1 f d ⟨y, e1, q⟩ => isi_any (dp_mono core_le _ _ (da_dp d e1)) hT (k _ _ H1 f (ok_d (Dp.bl _)) q)
/-- int(x) of a number or a bool -/
theorem w_int1 {t : TA} (h : WA K bx X0 H0 t ρ fun xs => (∃ i, xs = [.d (.int i)] ∧ Φ (.d (.int i))) ∨ ∃ b : Bool, xs = [.d (.bool b)] ∧ Φ (.d (.int (if b then 1 else 0)))) :
    W K bx X0 H0 (tCB (fun xs H Q => (∃ i, xs = [.int i] ∧ Q (.int i) H) ∨ ∃ k, xs = [.bl k] ∧ Q (.int (if k then 1 else 0)) H) t) ρ Φ :=
  w_cb fun X H σ e Q k => h X H σ e Q fun vs xs H' f d q => k vs xs H' f d fun X H E vs da Q k2 => by
    rcases q with ⟨i, rfl, q⟩ | ⟨b, rfl, q⟩
    · obtain ⟨v, rfl, d1⟩ := da1 da
      cases da_d d1
      exact .inl ⟨i, rfl, k2 _ _ H (.refl H) (ok_d (Dp.int _)) q⟩
    · obtain ⟨v, rfl, d1⟩ := da1 da
      cases da_d d1
      exact .inr ⟨b, rfl, k2 _ _ H (.refl H) (ok_d (Dp.int _)) q⟩
/-! two lists beside one another, two tuples -/
theorem wf_cat {a b : TE} {Φ : List PyData → Prop} (h : W K bx X0 H0 a ρ fun x => W K bx X0 H0 b ρ fun y => ∃ xs ys, x = .ls xs ∧ y = .ls ys ∧ xs.length + ys.length ≤ 100000 ∧ Φ (xs ++ ys)) : WF K bx X0 H0 (tOp rCat a b) ρ Φ := fun X H σ e Q k =>
  h X H σ e _ fun v x H1 f1 d1 q1 => q1 X H1 σ (e.go f1) _ fun u y H2 f2 d2 ⟨xs, ys, e1, e2, l, q⟩ => by
    subst e1 e2
    obtain ⟨p, vs, rfl, h1, h2⟩ := da_ls (da_fr f2 e.sub d1)
    obtain ⟨p2, us, rfl, h3, h4⟩ := da_ls d2
    have big : 100000 ≤ sizeLine := by decide
    refine ⟨p, p2, vs, us, rfl, rfl, core_le _ _ h1, core_le _ _ h3, by rw [dpAll_len h2, dpAll_len h4]; omega, fun t n => k t _ _ _ ((f1.trans f2).new n) ((f1.trans f2).free n) upd_same ?_ q⟩
    rw [core_upd (.inr rfl)]
    refine dpAll_mono (fun b o z => ?_) _ _ (dpAll_app h2 h4)
    obtain ⟨n1, z1, z2⟩ := core_some z
    exact core_of (fun g => g.elim n1 fun g => by rw [g, n] at z1; cases z1) z1 z2
theorem w_catT {a b : TE} (h : W K bx X0 H0 a ρ fun x => W K bx X0 H0 b ρ fun y => ∃ xs ys, x = .d (.tuple xs) ∧ y = .d (.tuple ys) ∧ xs.length + ys.length ≤ 100000 ∧ Φ (.d (.tuple (xs ++ ys)))) : W K bx X0 H0 (tOp (rCatA K) a b) ρ Φ :=
  w_op (h.mono fun x q0 => W.mono q0 fun y ⟨xs, ys, e1, e2, l, q⟩ X H E v u d1 d2 Q k => by
    subst e1 e2
    have big : 100000 ≤ sizeLine := by decide
    cases da_d d1 with
    | tup h1 h2 =>
      cases da_d d2 with
      | tup h3 h4 =>
        have l1 := dpAll_len h2
        have l2 := dpAll_len h4
        refine ⟨_, _, _, _, rfl, rfl, grow_sqT (grow_same core_le) h1, grow_sqT (grow_same core_le) h3, by rw [l1, l2]; omega, fun z => ?_, fun _ z => ?_, fun _ _ p n => ?_⟩
        · subst z
          cases h2
          exact k _ _ H (.refl H) (ok_d (Dp.tup h3 h4)) q
        · subst z
          cases h4
          rw [List.append_nil] at q
          exact k _ _ H (.refl H) (ok_d (Dp.tup h1 h2)) q
        · exact k _ _ _ (.of (same_new n)) (ok_d (Dp.tup (SqT.of (core_of (E.no n) upd_same fun ps z => by cases z)) (dpAll_mono (core_fr (bx := bx) (.of (same_new n)) E.sub) _ _ (dpAll_app h2 h4)))) q)
end
end Say

set_option Elab.async false
set_option linter.all false
set_option maxRecDepth 100000
set_option maxHeartbeats 4000000
namespace Say
open PySem PySem.Spec PyProof.Rows L2
/-! ### 4. what is gone through -/
section
variable (K : PySem.W.Frag) (bx X0 : Addr → Prop) (H0 : Hp)
def WI (wi : TI) (ρ : Rho) (Φ : List PyData → Prop) : Prop := ∀ (X : Addr → Prop) (H : Hp) (σ : L2.St), En K bx X0 H0 X H σ ρ → ∀ R : It → Hp → Prop,
  (∀ (J : It) (n : Nat) (G : Hp → Prop) (Y : Nat → Hp → V → Hp → Prop) (ds : List PyData) (H' : Hp), Walk J n G Y → ds.length = n → Fr bx H H' → (∀ (X' : Addr → Prop) (H2 : Hp), Same (core X H') (core X' H2) → G H2) →
    (∀ (i : Nat) (X' : Addr → Prop) (H1 : Hp) (v : V) (H2 : Hp), Same (core X H') (core X' H1) → (∀ b, bx b → X' b) → (∀ b, X' b → H1 b ≠ none) → i < n → Y i H1 v H2 → ∃ d, ds[i]? = some d ∧ Fr bx H1 H2 ∧ Dp K (core X' H2) v d) → Φ ds → R J H') → wi σ H R
/-- no own list that was not there -/
def NoNew (ρ ρ' : Rho) : Prop := ∀ (i : Nat) (x : Dat), ρ'[i]? = some (some x) → isO x = true → ρ[i]? = some (some x)
/-- a target takes a datum -/
def WG (g : TG) (vs : List Nat) (ρ : Rho) (d : PyData) (N : Rho → Prop) : Prop := ∀ (X : Addr → Prop) (H : Hp) (σ : L2.St) (v : V), En K bx X0 H0 X H σ ρ → Dp K (core X H) v d → ∀ Q : L2.St → Hp → Prop,
  (∀ ρ' σ', N ρ' → En K bx X0 H0 X H σ' ρ' → L2.wipe σ' vs = L2.wipe σ vs → NoNew ρ ρ' → Q σ' H) → g v σ H Q
end
theorem wipe_set {σ : L2.St} {o : Option V} {i : Nat} : ∀ {vs : List Nat}, i ∈ vs → L2.wipe (σ.set i o) vs = L2.wipe σ vs
  | v :: vs, h => by
    unfold L2.wipe
    by_cases e : i ∈ vs
    · rw [wipe_set e]
    · have iv : i = v := by
        rcases List.mem_cons.mp h with h | h
        · exact h
        · exact absurd h e
      subst iv
      have go : ∀ {ws : List Nat}, i ∉ ws → L2.wipe (σ.set i o) ws = (L2.wipe σ ws).set i o := by
        intro ws
        induction ws with
        | nil => intro _; rfl
        | cons w ws ih =>
          intro n
          have n1 : i ≠ w := fun z => n (by rw [z]; exact List.mem_cons_self)
          have n2 : i ∉ ws := fun z => n (List.mem_cons_of_mem _ z)
          show (L2.wipe (σ.set i o) ws).set w none = ((L2.wipe σ ws).set w none).set i o
          rw [ih n2, List.set_comm _ _ n1]
      rw [go e, List.set_set]
theorem wipe_wipe {σ : L2.St} (vs : List Nat) : L2.wipe (L2.wipe σ vs) vs = L2.wipe σ vs := by
  have go : ∀ ws : List Nat, (∀ w ∈ ws, w ∈ vs) → L2.wipe (L2.wipe σ ws) vs = L2.wipe σ vs := by
    intro ws
    induction ws with
    | nil => intro _; rfl
    | cons w ws ih =>
      intro h
      show L2.wipe ((L2.wipe σ ws).set w none) vs = _
      rw [wipe_set (h w List.mem_cons_self)]
      exact ih fun x hx => h x (List.mem_cons_of_mem _ hx)
  exact go vs fun _ h => h
section
variable {K : PySem.W.Frag} {bx X0 : Addr → Prop} {H0 : Hp} {ρ : Rho} {Φ Ψ : Dat → Prop}
theorem seq_sq {H H' : Hp} (s : Same H H') {a : Addr} {xs : List V} (h : Sq K H a xs) : Sq K H' a xs := same_sq s h
theorem wi_sq {t : TE} {Φ : List PyData → Prop} (h : W K bx X0 H0 t ρ fun x => ∃ y ys, dat? x = some y ∧ seq? x = some ys ∧ Φ ys) : WI K bx X0 H0 (iSq K t) ρ Φ := fun X H σ e R k =>
  h X H σ e _ fun v x H1 f d ⟨y, ys, e1, e2, q⟩ => by
    obtain ⟨a, vs, rfl, h1, h2⟩ := da_seqC d e1 e2
    have ys_at : ∀ (i : Nat) (X' : Addr → Prop) (H2 : Hp) (v : V) (H3 : Hp), Same (core X H1) (core X' H2) → (∀ b, bx b → X' b) → (∀ b, X' b → H2 b ≠ none) → i < vs.length → YAt vs i H2 v H3 → ∃ d, ys[i]? = some d ∧ Fr bx H2 H3 ∧ Dp K (core X' H3) v d := by
      rintro i X' H2 v H3 s _ _ hi ⟨rfl, hv⟩
      obtain ⟨d, hd, dv⟩ := dpAll_get h2 hv
      exact ⟨d, hd, .refl _, dp_mono s _ _ dv⟩
    refine ⟨a, rfl, ?_⟩
    rcases h1 with h1 | h1
    · exact .inl ⟨⟨vs, core_le.seq h1⟩, k (Itl K a) vs.length _ _ ys H1 (walk_list (xs := vs)) (dpAll_len h2).symm f (fun X' H2 s => core_le.seq (s.seq h1)) ys_at q⟩
    · exact .inr ⟨⟨vs, grow_sqT (grow_same core_le) h1⟩, k (Itt K a) vs.length _ _ ys H1 (walk_tup (xs := vs)) (dpAll_len h2).symm f (fun X' H2 s => grow_sqT (grow_same core_le) (grow_sqT (grow_same s) h1)) ys_at q⟩
theorem wi_r1 {t : TA} {Φ : List PyData → Prop} (h : WA K bx X0 H0 t ρ fun xs => ∃ j : Int, xs = [.d (.int j)] ∧ -1000000 ≤ j ∧ j ≤ 1000000 ∧ Φ ((List.range j.toNat).map fun i => .int (i : Nat))) : WI K bx X0 H0 (iRng1 t) ρ Φ := fun X H σ e R k =>
  h X H σ e _ fun vs xs H1 f d ⟨j, e1, b1, b2, q⟩ => by
    subst e1
    obtain ⟨v, rfl, d1⟩ := da1 d
    cases da_d d1
    refine ⟨j, rfl, by omega, by omega, k (Itr 0 j.toNat) j.toNat _ _ _ H1 walk_range (by rw [List.length_map, List.length_range]) f (fun _ _ _ => trivial) ?_ q⟩
    rintro i X' H2 v H3 s _ _ hi ⟨rfl, rfl⟩
    refine ⟨.int (i : Nat), by rw [List.getElem?_map, List.getElem?_range hi]; rfl, .refl _, ?_⟩
    have e : (0 : Int) + (i : Nat) = (i : Nat) := by omega
    show Dp K (core X' H3) (V.int ((0 : Int) + (i : Nat))) _
    rw [e]
    exact .int _
theorem wi_r2 {t : TA} {Φ : List PyData → Prop} (h : WA K bx X0 H0 t ρ fun xs => ∃ a b : Int, xs = [.d (.int a), .d (.int b)] ∧ (-1000000 ≤ a ∧ a ≤ 1000000 ∧ -1000000 ≤ b ∧ b ≤ 1000000) ∧ Φ ((List.range (b - a).toNat).map fun i => .int (a + (i : Nat)))) : WI K bx X0 H0 (iRng2 t) ρ Φ := fun X H σ e R k =>
  h X H σ e _ fun vs xs H1 f d ⟨a, b, e1, ⟨b1, b2, b3, b4⟩, q⟩ => by
    subst e1
    cases d with
    | cons d1 d2 =>
      obtain ⟨v, rfl, d3⟩ := da1 d2
      cases da_d d1
      cases da_d d3
      refine ⟨a, b, rfl, ⟨by omega, by omega, by omega, by omega⟩, k (Itr a (b - a).toNat) (b - a).toNat _ _ _ H1 walk_range (by rw [List.length_map, List.length_range]) f (fun _ _ _ => trivial) ?_ q⟩
      rintro i X' H2 v H3 s _ _ hi ⟨rfl, rfl⟩
      exact ⟨.int (a + (i : Nat)), by rw [List.getElem?_map, List.getElem?_range hi]; rfl, .refl _, .int _⟩
theorem wi_en {t : TA} {Φ : List PyData → Prop} (h : WA K bx X0 H0 t ρ fun xs => ∃ x y ys, xs = [x] ∧ dat? x = some y ∧ seq? x = some ys ∧ Φ (ys.mapIdx fun i d => .tuple [.int (i : Nat), d])) : WI K bx X0 H0 (iEnSq K t) ρ Φ := fun X H σ e R k =>
  h X H σ e _ fun vs xs H1 f d ⟨x, y, ys, e0, e1, e2, q⟩ => by
    subst e0
    obtain ⟨v, rfl, d1⟩ := da1 d
    obtain ⟨a, vs, rfl, h1, h2⟩ := da_seqC d1 e1 e2
    have ys_at : ∀ (i : Nat) (X' : Addr → Prop) (H2 : Hp) (v : V) (H3 : Hp), Same (core X H1) (core X' H2) → (∀ b, bx b → X' b) → (∀ b, X' b → H2 b ≠ none) → i < vs.length → YPair (fun i => some (.int (i : Nat))) (fun i => vs[i]?) i H2 v H3 → ∃ d, (ys.mapIdx fun i d => PyData.tuple [.int (i : Nat), d])[i]? = some d ∧ Fr bx H2 H3 ∧ Dp K (core X' H3) v d := by
      rintro i X' H2 v H3 s sb dm hi ⟨T, x, y, rfl, n, rfl, hx, hy⟩
      cases hx
      obtain ⟨d, hd, dv⟩ := dpAll_get h2 hy
      have fr : Fr bx H2 (upd H2 T (.tup [.int (i : Nat), y])) := .of (same_new n)
      have c := core_fr (X := X') fr sb
      refine ⟨.tuple [.int (i : Nat), d], by rw [List.getElem?_mapIdx, hd]; rfl, fr, .tup (SqT.of (core_of (fun z => dm _ z n) upd_same fun ps z => by cases z)) (.cons (.int _) (.cons (dp_mono c _ _ (dp_mono s _ _ dv)) .nil))⟩
    refine ⟨a, rfl, ?_⟩
    rcases h1 with h1 | h1
    · exact .inl ⟨⟨vs, core_le.seq h1⟩, k (Ite K a) vs.length _ _ _ H1 (walk_enum (xs := vs)) (by rw [List.length_mapIdx]; exact (dpAll_len h2).symm) f (fun X' H2 s => core_le.seq (s.seq h1)) ys_at q⟩
    · exact .inr ⟨⟨vs, grow_sqT (grow_same core_le) h1⟩, k (IteT K a) vs.length _ _ _ H1 (walk_enumT (xs := vs)) (by rw [List.length_mapIdx]; exact (dpAll_len h2).symm) f (fun X' H2 s => grow_sqT (grow_same core_le) (grow_sqT (grow_same s) h1)) ys_at q⟩
/-! targets -/
theorem wg_name {i : Nat} {vs : List Nat} {d : PyData} {N : Rho → Prop} (hi : i ∈ vs) (q : N (ρ.set i (some (.d d)))) : WG K bx X0 H0 (gName i) vs ρ d N := fun X H σ v e dv Q k =>
  k _ _ q (e.set (ok_d dv)) (wipe_set hi) fun j x h o => by
    by_cases c : j = i
    · subst c
      rw [List.getElem?_set, if_pos rfl] at h
      split at h <;> cases h
      cases o
    · rw [List.getElem?_set_ne (Ne.symm c)] at h
      exact h
/-- the parts of a tuple's target, from the left -/
def WGs (K : PySem.W.Frag) (bx X0 : Addr → Prop) (H0 : Hp) (g : TGs) (vs : List Nat) (ρ : Rho) (ds : List PyData) (N : Rho → Prop) : Prop := ∀ (X : Addr → Prop) (H : Hp) (σ : L2.St) (us : List V), En K bx X0 H0 X H σ ρ → DpAll K (core X H) us ds → ∀ Q : L2.St → Hp → Prop,
  (∀ ρ' σ', N ρ' → En K bx X0 H0 X H σ' ρ' → L2.wipe σ' vs = L2.wipe σ vs → NoNew ρ ρ' → Q σ' H) → g us σ H Q
theorem wgs_nil {vs : List Nat} {N : Rho → Prop} (q : N ρ) : WGs K bx X0 H0 gNil vs ρ [] N := fun X H σ us e d Q k => by
  cases d
  exact ⟨rfl, k _ _ q e rfl fun _ _ h _ => h⟩
theorem wgs_cons {g : TG} {gs : TGs} {vs : List Nat} {d : PyData} {ds : List PyData} {N : Rho → Prop} (h : WG K bx X0 H0 g vs ρ d fun ρ' => WGs K bx X0 H0 gs vs ρ' ds N) : WGs K bx X0 H0 (gCons g gs) vs ρ (d :: ds) N := fun X H σ us e dd Q k => by
  cases dd with
  | cons d1 d2 => exact ⟨_, _, rfl, h X H σ _ e d1 _ fun ρ' σ' q e' w n1 => q X H σ' _ e' d2 Q fun ρ2 σ2 q2 e2 w2 n2 => k ρ2 σ2 q2 e2 (w2.trans w) fun i x h o => n1 i x (n2 i x h o) o⟩
theorem wg_tup {n : Nat} {gs : TGs} {vs : List Nat} {d : PyData} {ds : List PyData} {N : Rho → Prop} (hd : d = .tuple ds) (hn : ds.length = n) (h : WGs K bx X0 H0 gs vs ρ ds N) : WG K bx X0 H0 (gTup K n gs) vs ρ d N := fun X H σ v e dv Q k => by
  subst hd
  cases dv with
  | tup h1 h2 => exact ⟨_, _, rfl, grow_sqT (grow_same core_le) h1, by rw [dpAll_len h2]; exact hn, h X H σ _ e h2 Q k⟩
/-! ### 5. comprehensions -/
theorem filter_take_succ {α β : Type} {f : α → β} {p : α → Bool} {l : List α} {i : Nat} {x : α} (h : l[i]? = some x) : ((l.take (i + 1)).filter p).map f = ((l.take i).filter p).map f ++ if p x = true then [f x] else [] := by
  rw [List.take_succ, h]
  show ((l.take i ++ [x]).filter p).map f = _
  rw [List.filter_append, List.map_append]
  congr 1
  by_cases c : p x = true
  · rw [if_pos c, List.filter_cons_of_pos c]
    rfl
  · rw [if_neg c, List.filter_cons_of_neg c]
    rfl
/-- what is made so far -/
def LcW (K : PySem.W.Frag) (bx X : Addr → Prop) (Hs : Hp) (D : Addr) (out : List PyData) (H : Hp) : Prop := Fr bx Hs H ∧ ∃ vs, H D = some (.lst vs) ∧ DpAll K (core (fun b => X b ∨ b = D) H) vs out
theorem lcw_step {X : Addr → Prop} {Hs H : Hp} {D : Addr} {out : List PyData} {v : V} {d : PyData} (h : LcW K bx X Hs D out H) (n : Hs D = none) (nb : ¬ bx D) (dv : Dp K (core (fun b => X b ∨ b = D) H) v d) (l : out.length < 100000) :
    ∃ acc, H D = some (.lst acc) ∧ acc.length < sizeLine ∧ LcW K bx X Hs D (out ++ [d]) (upd H D (.lst (acc ++ [v]))) := by
  obtain ⟨f, vs, h1, h2⟩ := h
  have big : 100000 ≤ sizeLine := by decide
  refine ⟨vs, h1, by rw [dpAll_len h2]; omega, f.upd n nb (nc_lst h1), vs ++ [v], upd_same, ?_⟩
  rw [core_upd (.inr rfl)]
  exact dpAll_app h2 (.cons dv .nil)
theorem lcw_fr {X : Addr → Prop} {Hs H H' : Hp} {D : Addr} {out : List PyData} (h : LcW K bx X Hs D out H) (f : Fr bx H H') (sub : ∀ b, bx b → X b) (nb : ¬ bx D) : LcW K bx X Hs D out H' := by
  obtain ⟨f0, vs, h1, h2⟩ := h
  exact ⟨f0.trans f, vs, f.kp _ _ nb (fun ps z => by cases z) h1, dpAll_mono (core_fr f fun b z => .inl (sub b z)) _ _ h2⟩
/-- the core stays while the new list is made -/
theorem core_new {X : Addr → Prop} {Hs H : Hp} {D : Addr} (f : Fr bx Hs H) (sub : ∀ b, bx b → X b) (n : Hs D = none) : Same (core X Hs) (core (fun b => X b ∨ b = D) H) := fun b o z => by
  obtain ⟨z1, z2, z3⟩ := core_some z
  exact core_of (fun g => g.elim z1 fun g => by rw [g, n] at z2; cases z2) (f.kp b o (fun g => z1 (sub b g)) z3 z2) z3
theorem En.new {X : Addr → Prop} {Hs H : Hp} {D : Addr} {σ : L2.St} {us : List V} (e : En K bx X0 H0 X Hs σ ρ) (f : Fr bx Hs H) (n : Hs D = none) (hd : H D = some (.lst us)) : En K bx X0 H0 (fun b => X b ∨ b = D) H σ ρ := by
  have c := core_new f e.sub n
  refine ⟨⟨fun b z => .inl (e.sub b z), fun b z => z.elim (fun z => (e.toEnX.go f).mu b z) fun z => by rw [z]; exact ⟨_, hd, mut_lst⟩, fun b z => f.bo b z (e.bo b z), fun b z => .inl (e.s0 b z), e.fr.trans f⟩, e.len, fun i x h => ?_⟩
  obtain ⟨v, h1, h2⟩ := e.at_ i x h
  refine ⟨v, h1, ?_⟩
  cases x with
  | d x => exact dp_mono c _ _ (da_d h2)
  | v x => exact h2
  | ls xs =>
    obtain ⟨a, vs, rfl, h3, h4⟩ := da_ls h2
    exact ⟨a, vs, rfl, c _ _ h3, dpAll_mono c _ _ h4⟩
  | pt xs =>
    obtain ⟨a, o, vs, rfl, h3, h4, h5⟩ := da_pt h2
    exact ⟨a, o, vs, rfl, c _ _ h3, h4, dpAll_mono c _ _ h5⟩
  | fm xs =>
    obtain ⟨a, vs, rfl, h3, h4⟩ := da_fm h2
    exact ⟨a, vs, rfl, c _ _ h3, dpAll_mono c _ _ h4⟩
  | fi C fs =>
    obtain ⟨a, dx, vs, rfl, h3, h4⟩ := da_fi h2
    exact ⟨a, dx, vs, rfl, c _ _ h3, fdAll_mono c h4⟩
  | i D2 C fs =>
    obtain ⟨rfl, h3, h4, dx, vs, h5, h6⟩ := da_i h2
    exact ⟨rfl, .inl h3, h4, dx, vs, f.kp _ _ h4 (fun ps z => by cases z) h5, fdAll_mono c h6⟩
  | o D2 xs =>
    obtain ⟨rfl, h3, h4, vs, h5, h6⟩ := da_o h2
    exact ⟨rfl, .inl h3, h4, vs, f.kp _ _ h4 (fun ps z => by cases z) h5, dpAll_mono c _ _ h6⟩
  | m D2 xs =>
    obtain ⟨rfl, h3, h4, vs, h5, h6⟩ := da_m h2
    exact ⟨rfl, .inl h3, h4, vs, f.kp _ _ h4 (fun ps z => by cases z) h5, dpAll_mono c _ _ h6⟩
  | s P => exact fun H2 s => h2 H2 (same_tr c s)
/-- the invariant of what is made, told by the number of turns -/
theorem wf_lcI {wi : TI} {g : TG} {tt : TT} {te : TE} {vs : List Nat} {Φ : List PyData → Prop}
    (h : WI K bx X0 H0 wi ρ fun ds => ∃ I : Nat → List PyData → Prop, I 0 [] ∧ (∀ i d out, ds[i]? = some d → I i out → out.length < 100000 ∧ WG K bx X0 H0 g vs (wipeR ρ vs) d fun ρ' => WT K bx X0 H0 tt ρ' fun b => (b = true → W K bx X0 H0 te ρ' fun x => ∃ y, dat? x = some y ∧ I (i + 1) (out ++ [y])) ∧ (b = false → I (i + 1) out)) ∧ ∀ out, I ds.length out → Φ out) :
    WF K bx X0 H0 (tLc wi g tt te vs) ρ Φ := fun X H σ e Q k =>
  h X H σ e _ fun J n G Y ds H1 w hn f st yd ⟨I, i0, is, ie⟩ => fun D hD => by
    have e1 := e.go f
    have nX : ¬ X D := e1.toEnX.no hD
    have nb : ¬ bx D := fun z => nX (e.sub D z)
    refine lc_it w (fun i H' => ∃ out, LcW K bx X H1 D out H' ∧ I i out) ⟨[], ⟨.of (same_new hD), [], upd_same, .nil⟩, i0⟩ (fun i H' hi p => ?_) (fun i v H2 H3 hi p y => ?_) (fun H' p => ?_)
    · obtain ⟨out, ⟨f2, _⟩, _⟩ := p
      exact st _ H' (core_new (D := D) f2 e.sub hD)
    · obtain ⟨out, L, hI⟩ := p
      have f2 := L.1
      obtain ⟨us2, hd2⟩ : ∃ us, H2 D = some (.lst us) := by
        obtain ⟨_, us, q, _⟩ := L
        exact ⟨us, q⟩
      obtain ⟨d, hd, f3, dv⟩ := yd i _ H2 v H3 (core_new (D := D) f2 e.sub hD) (fun b z => .inl (e.sub b z)) (fun b z => z.elim (fun z => f2.dm b (e1.dm b z)) fun z => by rw [z, hd2]; exact fun z => by cases z) hi y
      obtain ⟨few, hg⟩ := is i d out hd hI
      have eD := (e1.new f2 hD hd2).go f3
      have L3 := lcw_fr L f3 e.sub nb
      refine hg _ H3 _ v (eD.wipe vs) dv _ fun ρ' σ' ht e2 wp _ => ⟨wp.trans (wipe_wipe vs), ht _ H3 σ' e2 _ fun b H4 f4 hb => ?_⟩
      have L4 := lcw_fr L3 f4 e.sub nb
      refine ite2 (fun c => ?_) (fun c => ⟨out, L4, hb.2 (by simpa using c)⟩)
      refine hb.1 c _ H4 σ' (e2.go f4) _ fun u x H5 f5 dx ⟨z, hz, hI2⟩ => ?_
      have L5 := lcw_fr L4 f5 e.sub nb
      obtain ⟨acc, a1, a2, a3⟩ := lcw_step L5 hD nb (da_dp dx hz) few
      exact ⟨acc, a1, a2, _, a3, hI2⟩
    · obtain ⟨out, ⟨f2, us, h1, h2⟩, hI⟩ := p
      exact k D us out H' (f.trans f2) (f.free hD) h1 h2 (ie out (by rw [hn]; exact hI))
/-- .. where each item's test and value are told by functions of the item -/
theorem wf_lc {wi : TI} {g : TG} {tt : TT} {te : TE} {vs : List Nat} {Φ : List PyData → Prop}
    (h : WI K bx X0 H0 wi ρ fun ds => ds.length ≤ 100000 ∧ ∃ (α : Type) (as : List α) (en : α → PyData) (p : α → Bool) (fn : α → PyData), ds = as.map en ∧ (∀ a ∈ as, WG K bx X0 H0 g vs (wipeR ρ vs) (en a) fun ρ' => WT K bx X0 H0 tt ρ' fun b => b = p a ∧ (p a = true → W K bx X0 H0 te ρ' fun x => dat? x = some (fn a))) ∧ Φ ((as.filter p).map fn)) :
    WF K bx X0 H0 (tLc wi g tt te vs) ρ Φ := by
  refine wf_lcI fun X H σ e R k => h X H σ e R fun J n G Y ds H' w hn f st yd ⟨few, α, as, en, p, fn, ha, hs, q⟩ => k J n G Y ds H' w hn f st yd ⟨fun i out => out = ((as.take i).filter p).map fn, rfl, fun i d out hd ho => ?_, fun out ho => ?_⟩
  · subst ho
    rw [ha, List.getElem?_map] at hd
    obtain ⟨a, hai, rfl⟩ := Option.map_eq_some_iff.mp hd
    refine ⟨?_, fun X H σ v e dv Q kq => hs a (List.mem_of_getElem? hai) X H σ v e dv Q fun ρ' σ' hN e2 w2 n2 => kq ρ' σ' (hN.mono fun b hb => ⟨fun c => (hb.2 (hb.1 ▸ c)).mono fun x hx => ⟨fn a, hx, ?_⟩, fun c => ?_⟩) e2 w2 n2⟩
    · have := List.length_filter_le p (as.take i)
      have il := (List.getElem?_eq_some_iff.mp hai).1
      rw [List.length_map]
      rw [List.length_take] at this
      rw [ha, List.length_map] at few
      omega
    · show _ = ((as.take (i + 1)).filter p).map fn
      rw [filter_take_succ hai, if_pos (hb.1 ▸ c)]
    · show _ = ((as.take (i + 1)).filter p).map fn
      rw [filter_take_succ hai, if_neg (by rw [← hb.1, c]; exact Bool.false_ne_true), List.append_nil]
  · rw [ho, ha, List.length_map, List.take_length]
    exact q
end
end Say

set_option Elab.async false
set_option linter.all false
set_option maxRecDepth 100000
set_option maxHeartbeats 4000000
namespace Say
open PySem PySem.Spec PyProof.Rows L2
section
variable {K : PySem.W.Frag} {bx X0 : Addr → Prop} {H0 : Hp} {ρ : Rho} {Φ Ψ : Dat → Prop}
theorem wipeR_own {x : Dat} {i : Nat} : ∀ {vs : List Nat}, (wipeR ρ vs)[i]? = some (some x) → ρ[i]? = some (some x)
  | [], h => h
  | v :: vs, h => by
    unfold wipeR at h
    by_cases c : i = v
    · subst c
      rw [List.getElem?_set, if_pos rfl] at h
      split at h <;> cases h
    · rw [List.getElem?_set_ne (Ne.symm c)] at h
      exact wipeR_own h
/-- [e for x in xs if .. for y in ys if ..] -/
theorem wf_lc2 {wi wi1 : TI} {g g1 : TG} {tt tt1 : TT} {te : TE} {vs vs1 : List Nat} {Φ : List PyData → Prop}
    (h : WI K bx X0 H0 wi ρ fun ds => ∃ (α β : Type) (as : List α) (en : α → PyData) (p : α → Bool) (bs : α → List β) (en1 : β → PyData) (p1 : α → β → Bool) (fn : α → β → PyData), ds = as.map en ∧
      (∀ a ∈ as, WG K bx X0 H0 g vs (wipeR ρ vs) (en a) fun ρ' => WT K bx X0 H0 tt ρ' fun b => b = p a ∧ (p a = true → WI K bx X0 H0 wi1 ρ' fun es => es = (bs a).map en1 ∧
        ∀ b ∈ bs a, WG K bx X0 H0 g1 vs1 (wipeR ρ' vs1) (en1 b) fun ρ2 => WT K bx X0 H0 tt1 ρ2 fun c => c = p1 a b ∧ (p1 a b = true → W K bx X0 H0 te ρ2 fun x => dat? x = some (fn a b)))) ∧
      ((as.filter p).flatMap fun a => ((bs a).filter (p1 a)).map (fn a)).length ≤ 100000 ∧
      Φ ((as.filter p).flatMap fun a => ((bs a).filter (p1 a)).map (fn a))) :
    WF K bx X0 H0 (tLc2 wi g tt wi1 g1 tt1 te vs vs1) ρ Φ := fun X H σ e Q k =>
  h X H σ e _ fun J n G Y ds H1 w hn f st yd ⟨α, β, as, en, p, bs, en1, p1, fn, ha, is, few, q⟩ => fun D hD => by
    have e1 := e.go f
    have nX : ¬ X D := e1.toEnX.no hD
    have nb : ¬ bx D := fun z => nX (e.sub D z)
    let out (i : Nat) : List PyData := ((as.take i).filter p).flatMap fun a => ((bs a).filter (p1 a)).map (fn a)
    have osucc : ∀ {i : Nat} {a : α}, as[i]? = some a → out (i + 1) = out i ++ if p a = true then ((bs a).filter (p1 a)).map (fn a) else [] := by
      intro i a hai
      show ((as.take (i + 1)).filter p).flatMap _ = _
      rw [List.take_succ, hai]
      show ((as.take i ++ [a]).filter p).flatMap _ = _
      rw [List.filter_append, List.flatMap_append]
      congr 1
      by_cases c : p a = true
      · rw [if_pos c, List.filter_cons_of_pos c]
        show List.flatMap _ [a] = _
        rw [List.flatMap_cons, List.flatMap_nil, List.append_nil]
      · rw [if_neg c, List.filter_cons_of_neg c]
        rfl
    have oall : out as.length = (as.filter p).flatMap fun a => ((bs a).filter (p1 a)).map (fn a) := by
      show ((as.take as.length).filter p).flatMap _ = _
      rw [List.take_length]
    have omono : ∀ i, (out i).length ≤ 100000 := by
      intro i
      have : out i <+: (as.filter p).flatMap fun a => ((bs a).filter (p1 a)).map (fn a) := by
        show ((as.take i).filter p).flatMap _ <+: _
        obtain ⟨r, hr⟩ := List.take_prefix i as
        conv => rhs; rw [← hr]
        rw [List.filter_append, List.flatMap_append]
        exact List.prefix_append _ _
      exact Nat.le_trans this.length_le few
    have opre : ∀ {i : Nat} {a : α} (j : Nat), as[i]? = some a → p a = true → ∀ b, (bs a)[j]? = some b → p1 a b = true → (out i ++ (((bs a).take j).filter (p1 a)).map (fn a)).length < 100000 := by
      intro i a j hai pa b hb pb
      have h1 := omono (i + 1)
      rw [osucc hai, if_pos pa] at h1
      have h2 : (((bs a).take (j + 1)).filter (p1 a)).length ≤ ((bs a).filter (p1 a)).length := by
        obtain ⟨r, hr⟩ := List.take_prefix (j + 1) (bs a)
        conv => rhs; rw [← hr]
        rw [List.filter_append, List.length_append]
        omega
      have h3 := congrArg List.length (filter_take_succ (f := fn a) (p := p1 a) hb)
      rw [if_pos pb] at h3
      simp only [List.length_append, List.length_map, List.length_cons, List.length_nil] at h1 h3 ⊢
      omega
    refine lc2_it w (fun i H' => LcW K bx X H1 D (out i) H') ⟨.of (same_new hD), [], upd_same, .nil⟩ (fun i H' hi p => ?_) (fun i v H2 H3 hi L y => ?_) (fun H' p => ?_)
    · exact st _ H' (core_new (D := D) p.1 e.sub hD)
    · have f2 := L.1
      obtain ⟨us2, hd2⟩ : ∃ us, H2 D = some (.lst us) := by
        obtain ⟨_, us, q, _⟩ := L
        exact ⟨us, q⟩
      obtain ⟨d, hd, f3, dv⟩ := yd i _ H2 v H3 (core_new (D := D) f2 e.sub hD) (fun b z => .inl (e.sub b z)) (fun b z => z.elim (fun z => f2.dm b (e1.dm b z)) fun z => by rw [z, hd2]; exact fun z => by cases z) hi y
      rw [ha, List.getElem?_map] at hd
      obtain ⟨a, hai, rfl⟩ := Option.map_eq_some_iff.mp hd
      have eD := (e1.new f2 hD hd2).go f3
      have L3 := lcw_fr L f3 e.sub nb
      refine is a (List.mem_of_getElem? hai) _ H3 _ v (eD.wipe vs) dv _ fun ρ' σ' ht e2 wp nn => ⟨wp.trans (wipe_wipe vs), ht _ H3 σ' e2 _ fun b H4 f4 hb => ?_⟩
      have L4 := lcw_fr L3 f4 e.sub nb
      have e4 := e2.go f4
      refine ite2 (fun c => ?_) (fun c => ?_)
      · have pa : p a = true := hb.1 ▸ c
        refine hb.2 pa _ H4 σ' e4 _ fun J1 n1 G1 Y1 es H5 w1 hn1 f5 st1 yd1 ⟨hes, is1⟩ => ?_
        have L5 := lcw_fr L4 f5 e.sub nb
        have e5 := e4.go f5
        -- the inner turns: what stands in the core at H5 stays
        refine lcin_it w1 (fun j H' => LcW K bx X H1 D (out i ++ (((bs a).take j).filter (p1 a)).map (fn a)) H' ∧ Same (core (fun b => X b ∨ b = D) H5) (core (fun b => X b ∨ b = D) H') ∧ En K bx X0 H0 (fun b => X b ∨ b = D) H' σ' ρ') ⟨by simpa using L5, fun _ _ z => z, e5⟩ (fun j H' hj p => st1 _ H' p.2.1) (fun j v1 H6 H7 hj p y1 => ?_) (fun H' p => ?_)
        · obtain ⟨L6, s6, e6⟩ := p
          obtain ⟨d1, hd1, f7, dv1⟩ := yd1 j _ H6 v1 H7 s6 e6.sub e6.dm hj y1
          rw [hes, List.getElem?_map] at hd1
          obtain ⟨b1, hbj, rfl⟩ := Option.map_eq_some_iff.mp hd1
          have e7 := e6.go f7
          have L7 := lcw_fr L6 f7 e.sub nb
          have s7 := same_tr s6 (core_fr f7 e6.sub)
          refine is1 b1 (List.mem_of_getElem? hbj) _ H7 _ v1 (e7.wipe vs1) dv1 _ fun ρ2 σ2 ht2 e8 wp2 _ => ⟨wp2.trans (wipe_wipe vs1), ht2 _ H7 σ2 e8 _ fun c1 H8 f8 hc => ?_⟩
          have L8 := lcw_fr L7 f8 e.sub nb
          have s8 := same_tr s7 (core_fr f8 e6.sub)
          have e9 := e7.go f8
          refine ite2 (fun c2 => ?_) (fun c2 => ?_)
          · have pb : p1 a b1 = true := hc.1 ▸ c2
            refine hc.2 pb _ H8 σ2 (e8.go f8) _ fun u x H9 f9 dx hx => ?_
            have L9 := lcw_fr L8 f9 e.sub nb
            obtain ⟨acc, a1, a2, a3⟩ := lcw_step L9 hD nb (da_dp dx hx) (opre j hai pa b1 hbj pb)
            refine ⟨acc, a1, a2, ?_, ?_, ?_⟩
            · rw [filter_take_succ hbj, if_pos pb, ← List.append_assoc]
              exact a3
            · rw [core_upd (.inr rfl)]
              exact same_tr s8 (core_fr f9 e6.sub)
            · have e10 := e9.go f9
              have cu : core (fun b => X b ∨ b = D) (upd H9 D (.lst (acc ++ [u]))) = core (fun b => X b ∨ b = D) H9 := core_upd (.inr rfl)
              refine ⟨⟨e10.sub, fun b z => ?_, fun b z => ?_, e10.s0, a3.1 |> e1.fr.trans⟩, e10.len, fun i x hix => ?_⟩
              · by_cases z2 : b = D
                · rw [z2, upd_same]
                  exact ⟨_, rfl, mut_lst⟩
                · rw [upd_ne z2]
                  exact e10.mu b z
              · obtain ⟨x, y, z2, q⟩ := e10.bo b z
                exact ⟨x, y, z2, by rw [upd_ne (fun z3 => nb (by rw [← z3]; exact z))]; exact q⟩
              · obtain ⟨v, h1, h2⟩ := e10.at_ i x hix
                refine ⟨v, h1, ?_⟩
                cases x with
                | d x =>
                  show Dp K (core _ _) v x
                  rw [cu]
                  exact da_d h2
                | v x => exact h2
                | ls xs =>
                  obtain ⟨a, vs, rfl, h3, h4⟩ := da_ls h2
                  exact ⟨a, vs, rfl, by rw [cu]; exact h3, by rw [cu]; exact h4⟩
                | pt xs =>
                  obtain ⟨a, o, vs, rfl, h3, h4, h5⟩ := da_pt h2
                  exact ⟨a, o, vs, rfl, by rw [cu]; exact h3, h4, by rw [cu]; exact h5⟩
                | fm xs =>
                  obtain ⟨a, vs, rfl, h3, h4⟩ := da_fm h2
                  exact ⟨a, vs, rfl, by rw [cu]; exact h3, by rw [cu]; exact h4⟩
                | fi C fs =>
                  obtain ⟨a, dx, vs, rfl, h3, h4⟩ := da_fi h2
                  exact ⟨a, dx, vs, rfl, by rw [cu]; exact h3, by rw [cu]; exact h4⟩
                | i D2 C fs =>
                  obtain ⟨rfl, h3, h4, dx, vs, h5, h6⟩ := da_i h2
                  by_cases z : D2 = D
                  · subst z
                    obtain ⟨v, _, h⟩ := e1.at_ i _ (wipeR_own (nn i _ hix rfl))
                    obtain ⟨_, _, _, dx, vs, q, _⟩ := da_i h
                    rw [hD] at q
                    cases q
                  · exact ⟨rfl, h3, h4, dx, vs, by rw [upd_ne z]; exact h5, by rw [cu]; exact h6⟩
                | o D2 xs =>
                  obtain ⟨rfl, h3, h4, vs, h5, h6⟩ := da_o h2
                  -- an own list of the slots is not the new one
                  by_cases z : D2 = D
                  · subst z
                    obtain ⟨v, _, h⟩ := e1.at_ i _ (wipeR_own (nn i _ hix rfl))
                    obtain ⟨_, _, _, vs, q, _⟩ := da_o h
                    rw [hD] at q
                    cases q
                  · exact ⟨rfl, h3, h4, vs, by rw [upd_ne z]; exact h5, by rw [cu]; exact h6⟩
                | m D2 xs =>
                  obtain ⟨rfl, h3, h4, vs, h5, h6⟩ := da_m h2
                  by_cases z : D2 = D
                  · subst z
                    obtain ⟨v, _, h⟩ := e1.at_ i _ (wipeR_own (nn i _ hix rfl))
                    obtain ⟨_, _, _, vs, q, _⟩ := da_m h
                    rw [hD] at q
                    cases q
                  · exact ⟨rfl, h3, h4, vs, by rw [upd_ne z]; exact h5, by rw [cu]; exact h6⟩
                | s P =>
                  intro H2 s
                  rw [cu] at s
                  exact h2 H2 s
          · have pb : p1 a b1 = false := by rw [← hc.1]; simpa using c2
            refine ⟨?_, s8, e9⟩
            rw [filter_take_succ hbj, if_neg (by rw [pb]; exact Bool.false_ne_true), List.append_nil]
            exact L8
        · obtain ⟨L6, _, _⟩ := p
          have en : n1 = (bs a).length := by rw [← hn1, hes, List.length_map]
          rw [en, List.take_length] at L6
          rw [osucc hai, if_pos pa]
          exact L6
      · have pa : p a = false := by rw [← hb.1]; simpa using c
        rw [osucc hai, if_neg (by rw [pa]; exact Bool.false_ne_true), List.append_nil]
        exact L4
    · obtain ⟨f2, us, h1, h2⟩ := p
      have : n = as.length := by rw [← hn, ha, List.length_map]
      rw [this, oall] at h2
      exact k D us _ H' (f.trans f2) (f.free hD) h1 h2 q
end
end Say

set_option Elab.async false
set_option linter.all false
set_option maxRecDepth 100000
set_option maxHeartbeats 4000000
namespace Say
open PySem PySem.Spec PyProof.Rows L2
/-! ### 6. statements -/
def ownA : Dat → Option Addr
  | .o D _ => some D
  | .m D _ => some D
  | .i D _ _ => some D
  | _ => none
theorem ownA_o {x : Dat} (h : isO x = false) : ownA x = none := by cases x <;> first | rfl | cases h
theorem isO_own {x : Dat} {D : Addr} (h : ownA x = some D) : isO x = true := by cases x <;> first | rfl | cases h
/-- the state at a statement; Z: what is to stay -/
structure Sx (K : PySem.W.Frag) (bx X0 : Addr → Prop) (H0 Z : Hp) (X : Addr → Prop) (H : Hp) (σ : L2.St) (ρ : Rho) : Prop extends En K bx X0 H0 X H σ ρ where
  nw : ∀ b, X b → X0 b ∨ H0 b = none
  d0 : ∀ b, X0 b → H0 b ≠ none
  ow : ∀ (i : Nat) (x : Dat), ρ[i]? = some (some x) → ∀ D, ownA x = some D → H0 D = none
  kz : Same Z (core X H)
section
variable (K : PySem.W.Frag) (bx X0 : Addr → Prop) (H0 : Hp)
structure WS (t : TS) (ρ : Rho) (N : Rho → Prop) (R : Dat → Prop) (B C : Rho → Prop) : Prop where
  run : ∀ (Z : Hp) (X : Addr → Prop) (H : Hp) (σ : L2.St), Sx K bx X0 H0 Z X H σ ρ → ∀ D : Ends,
    (∀ ρ' X' H' σ', N ρ' → Sx K bx X0 H0 Z X' H' σ' ρ' → D.nx σ' H') → (∀ x v H', R x → EnX bx X0 H0 X0 H' → DaOk K bx X0 H' v x → D.rt v H') →
    (∀ ρ' X' H' σ', B ρ' → Sx K bx X0 H0 Z X' H' σ' ρ' → D.bk σ' H') → (∀ ρ' X' H' σ', C ρ' → Sx K bx X0 H0 Z X' H' σ' ρ' → D.ct σ' H') → t D σ H
end
section
variable {K : PySem.W.Frag} {bx X0 : Addr → Prop} {H0 : Hp} {ρ : Rho} {N : Rho → Prop} {R : Dat → Prop} {B C : Rho → Prop}
theorem Sx.go' {Z : Hp} {X : Addr → Prop} {H H' : Hp} {σ : L2.St} (s : Sx K bx X0 H0 Z X H σ ρ) (f : Fr bx H H') : Sx K bx X0 H0 Z X H' σ ρ :=
  ⟨s.toEn.go f, s.nw, s.d0, s.ow, same_tr s.kz (core_fr f s.sub)⟩
theorem Sx.upto {Z Z' : Hp} {X : Addr → Prop} {H : Hp} {σ : L2.St} (s : Sx K bx X0 H0 Z X H σ ρ) (h : Same Z' Z) : Sx K bx X0 H0 Z' X H σ ρ := ⟨s.toEn, s.nw, s.d0, s.ow, same_tr h s.kz⟩
theorem Sx.at0 {Z : Hp} {X : Addr → Prop} {H : Hp} {σ : L2.St} (s : Sx K bx X0 H0 Z X H σ ρ) (sb : ∀ b, bx b → X0 b) : EnX bx X0 H0 X0 H := ⟨sb, fun b h => s.mu b (s.s0 b h), s.bo, fun _ h => h, s.fr⟩
theorem WS.mono {t : TS} {N' : Rho → Prop} {R' : Dat → Prop} {B' C' : Rho → Prop} (h : WS K bx X0 H0 t ρ N R B C) (n : ∀ x, N x → N' x) (r : ∀ x, R x → R' x) (b : ∀ x, B x → B' x) (c : ∀ x, C x → C' x) : WS K bx X0 H0 t ρ N' R' B' C' :=
  ⟨fun Z X H σ s D d1 d2 d3 d4 => h.run Z X H σ s D (fun ρ' X' H' σ' q => d1 ρ' X' H' σ' (n _ q)) (fun x v H' q => d2 x v H' (r _ q)) (fun ρ' X' H' σ' q => d3 ρ' X' H' σ' (b _ q)) fun ρ' X' H' σ' q => d4 ρ' X' H' σ' (c _ q)⟩
theorem ws_next (q : N ρ) : WS K bx X0 H0 tNext ρ N R B C := ⟨fun Z X H σ s D d1 _ _ _ => d1 ρ X H σ q s⟩
theorem ws_break (q : B ρ) : WS K bx X0 H0 tBreak ρ N R B C := ⟨fun Z X H σ s D _ _ d3 _ => d3 ρ X H σ q s⟩
theorem ws_cont (q : C ρ) : WS K bx X0 H0 tCont ρ N R B C := ⟨fun Z X H σ s D _ _ _ d4 => d4 ρ X H σ q s⟩
theorem ws_seq {t u : TS} (h : WS K bx X0 H0 t ρ (fun ρ' => WS K bx X0 H0 u ρ' N R B C) R B C) : WS K bx X0 H0 (tSeq t u) ρ N R B C :=
  ⟨fun Z X H σ s D d1 d2 d3 d4 => h.run Z X H σ s _ (fun ρ' X' H' σ' q s' => q.run Z X' H' σ' s' D d1 d2 d3 d4) d2 d3 d4⟩
theorem da_0 {X : Addr → Prop} {H : Hp} {v : V} (h : ∀ b, X0 b → X b) : ∀ {x : Dat}, isO x = false → DaOk K bx X H v x → DaOk K bx X0 H v x
  | .d x, _, e => dp_mono (core_sub h) _ _ (da_d e)
  | .v x, _, e => e
  | .ls xs, _, e => let ⟨a, vs, e1, e2, e3⟩ := da_ls e; ⟨a, vs, e1, core_sub h _ _ e2, dpAll_mono (core_sub h) _ _ e3⟩
  | .pt xs, _, e => let ⟨a, o, vs, e1, e2, e3, e4⟩ := da_pt e; ⟨a, o, vs, e1, core_sub h _ _ e2, e3, dpAll_mono (core_sub h) _ _ e4⟩
  | .fm kvs, _, e => let ⟨a, vs, e1, e2, e3⟩ := da_fm e; ⟨a, vs, e1, core_sub h _ _ e2, dpAll_mono (core_sub h) _ _ e3⟩
  | .fi C fs, _, e => let ⟨a, dx, vs, e1, e2, e3⟩ := da_fi e; ⟨a, dx, vs, e1, core_sub h _ _ e2, fdAll_mono (core_sub h) e3⟩
  | .s P, _, e => fun H2 s => e H2 (same_tr (core_sub h) s)
theorem ws_ret {te : TE} (sb : ∀ b, bx b → X0 b) (h : W K bx X0 H0 te ρ fun x => isO x = false ∧ R x) : WS K bx X0 H0 (tRet te) ρ N R B C :=
  ⟨fun Z X H σ s D _ d2 _ _ => h X H σ s.toEn _ fun v x H1 f d ⟨o, q⟩ => d2 x v H1 q ((s.go' f).at0 sb) (da_0 s.s0 o d)⟩
/-- a list of one's own is handed back -/
theorem ws_retO {i : Nat} {D : Addr} {xs : List PyData} (sb : ∀ b, bx b → X0 b) (h : ρ[i]? = some (some (.o D xs))) (q : R (.ls xs)) : WS K bx X0 H0 (tRet (tVar i)) ρ N R B C :=
  ⟨fun Z X H σ s Dd _ d2 _ _ => by
    obtain ⟨v, h1, h2⟩ := s.at_ i _ h
    obtain ⟨rfl, h3, h4, vs, h5, h6⟩ := da_o h2
    refine ⟨_, h1, d2 (.ls xs) _ H q (s.at0 sb) ⟨D, vs, rfl, core_of (fun z => s.d0 D z (s.ow i _ h D rfl)) h5 fun ps z => (by cases z), dpAll_mono (core_sub s.s0) _ _ h6⟩⟩⟩
theorem ws_retN (sb : ∀ b, bx b → X0 b) (q : R (.d .none)) : WS K bx X0 H0 tRetN ρ N R B C := ⟨fun Z X H σ s D _ d2 _ _ => d2 _ _ H q (s.at0 sb) (ok_d Dp.non)⟩
theorem Sx.set' {Z : Hp} {X : Addr → Prop} {H : Hp} {σ : L2.St} {i : Nat} {v : V} {x : Dat} (s : Sx K bx X0 H0 Z X H σ ρ) (d : DaOk K bx X H v x) (o : isO x = false) : Sx K bx X0 H0 Z X H (σ.set i (some v)) (ρ.set i (some x)) :=
  ⟨s.toEn.set d, s.nw, s.d0, fun j y h D hD => by
    by_cases c : j = i
    · subst c
      rw [List.getElem?_set, if_pos rfl] at h
      split at h
      · cases h
        rw [ownA_o o] at hD
        cases hD
      · cases h
    · rw [List.getElem?_set_ne (Ne.symm c)] at h
      exact s.ow j y h D hD, s.kz⟩
theorem ws_asg {te : TE} {i : Nat} (h : W K bx X0 H0 te ρ fun x => isO x = false ∧ N (ρ.set i (some x))) : WS K bx X0 H0 (tAsg te (gName i)) ρ N R B C :=
  ⟨fun Z X H σ s D d1 _ _ _ => h X H σ s.toEn _ fun v x H1 f d ⟨o, q⟩ => d1 _ X H1 _ q ((s.go' f).set' d o)⟩
theorem Sx.pat {Z : Hp} {X : Addr → Prop} {H : Hp} {σ σ' : L2.St} {ρ' : Rho} (s : Sx K bx X0 H0 Z X H σ ρ) (e : En K bx X0 H0 X H σ' ρ') (n : NoNew ρ ρ') : Sx K bx X0 H0 Z X H σ' ρ' := ⟨e, s.nw, s.d0, fun i x h D hD => s.ow i x (n i x h (isO_own hD)) D hD, s.kz⟩
/-- a, b = e -/
theorem ws_asgT {te : TE} {g : TG} (vs : List Nat) (h : W K bx X0 H0 te ρ fun x => ∃ y, dat? x = some y ∧ WG K bx X0 H0 g vs ρ y N) : WS K bx X0 H0 (tAsg te g) ρ N R B C :=
  ⟨fun Z X H σ s D d1 _ _ _ => h X H σ s.toEn _ fun v x H1 f d ⟨y, e, q⟩ => q X H1 σ v (s.toEn.go f) (da_dp d e) _ fun ρ' σ' hN e2 _ nn => d1 ρ' X H1 σ' hN ((s.go' f).pat e2 nn)⟩
/-- a, b = e, f -/
theorem ws_par {ta : TA} {i j : Nat} (h : WA K bx X0 H0 ta ρ fun xs => ∃ x y, xs = [x, y] ∧ isO x = false ∧ isO y = false ∧ N ((ρ.set i (some x)).set j (some y))) : WS K bx X0 H0 (tPar i j ta) ρ N R B C :=
  ⟨fun Z X H σ s D d1 _ _ _ => h X H σ s.toEn _ fun vs xs H1 f d ⟨x, y, e, o1, o2, q⟩ => by
    subst e
    cases d with
    | cons a r =>
      obtain ⟨u, rfl, b⟩ := da1 r
      exact ⟨_, _, rfl, d1 _ X H1 _ q (((s.go' f).set' a o1).set' b o2)⟩⟩
/-- a new list that may still change -/
theorem ws_own {te : TE} {i : Nat} (h : WF K bx X0 H0 te ρ fun xs => ∀ D, (∀ (j : Nat) (ys : List PyData), ρ[j]? ≠ some (some (.o D ys))) → N (ρ.set i (some (.o D xs)))) : WS K bx X0 H0 (tAsg te (gName i)) ρ N R B C :=
  ⟨fun Z X H σ s Dd d1 _ _ _ => h X H σ s.toEn _ fun D vs xs H1 f n a d q => by
    have nX : ¬ X D := s.toEnX.no n
    have n0 : H0 D = none := s.fr.free n
    have e2 := s.toEn.new f n a
    refine d1 _ (fun b => X b ∨ b = D) H1 _ (q D fun j ys z => ?_) ⟨e2.set (ok_o (.inr rfl) (fun z => nX (s.sub D z)) a d), fun b z => z.elim (s.nw b) fun z => by rw [z]; exact .inr n0, s.d0, fun j y z D2 hD2 => ?_, same_tr s.kz (core_new f s.sub n)⟩
    · obtain ⟨v, _, h2⟩ := s.at_ j _ z
      obtain ⟨_, h3, _⟩ := da_o h2
      exact nX h3
    · by_cases c : j = i
      · subst c
        rw [List.getElem?_set, if_pos rfl] at z
        split at z
        · cases z
          cases hD2
          exact n0
        · cases z
      · rw [List.getElem?_set_ne (Ne.symm c)] at z
        exact s.ow j y z D2 hD2⟩
/-- nobody changes the list any more -/
theorem ws_frz {t : TS} {i : Nat} {D : Addr} {xs : List PyData} (hi : ρ[i]? = some (some (.o D xs))) (hu : ∀ (j : Nat) (ys : List PyData), j ≠ i → ρ[j]? ≠ some (some (.o D ys))) (h : WS K bx X0 H0 t (ρ.set i (some (.ls xs))) N R B C) : WS K bx X0 H0 t ρ N R B C :=
  ⟨fun Z X H σ s Dd d1 d2 d3 d4 => by
    obtain ⟨v, h1, h2⟩ := s.at_ i _ hi
    obtain ⟨rfl, h3, h4, vs, h5, h6⟩ := da_o h2
    have n0 := s.ow i _ hi D rfl
    have sb : ∀ b, (X b ∧ b ≠ D) → X b := fun b z => z.1
    have c : Same (core X H) (core (fun b => X b ∧ b ≠ D) H) := core_sub sb
    refine h.run Z (fun b => X b ∧ b ≠ D) H σ ⟨⟨⟨fun b z => ⟨s.sub b z, fun q => h4 (by rw [← q]; exact z)⟩, fun b z => s.mu b z.1, s.bo, fun b z => ⟨s.s0 b z, fun q => s.d0 b z (by rw [q]; exact n0)⟩, s.fr⟩, by rw [List.length_set]; exact s.len, fun j x hj => ?_⟩, fun b z => s.nw b z.1, s.d0, fun j y z D2 hD2 => ?_, same_tr s.kz c⟩ Dd d1 d2 d3 d4
    · by_cases e : j = i
      · subst e
        rw [List.getElem?_set, if_pos rfl] at hj
        split at hj
        · cases hj
          exact ⟨_, h1, ok_ls (core_of (fun z => z.2 rfl) h5 fun ps z => (by cases z)) (dpAll_mono c _ _ h6)⟩
        · cases hj
      · rw [List.getElem?_set_ne (Ne.symm e)] at hj
        obtain ⟨u, g1, g2⟩ := s.at_ j x hj
        refine ⟨u, g1, ?_⟩
        cases x with
        | d x => exact dp_mono c _ _ (da_d g2)
        | v x => exact g2
        | ls xs =>
          obtain ⟨a, us, rfl, k1, k2⟩ := da_ls g2
          exact ⟨a, us, rfl, c _ _ k1, dpAll_mono c _ _ k2⟩
        | pt ys =>
          obtain ⟨a, o, us, rfl, k1, k2, k3⟩ := da_pt g2
          exact ⟨a, o, us, rfl, c _ _ k1, k2, dpAll_mono c _ _ k3⟩
        | fm ys =>
          obtain ⟨a, us, rfl, k1, k2⟩ := da_fm g2
          exact ⟨a, us, rfl, c _ _ k1, dpAll_mono c _ _ k2⟩
        | fi C fs =>
          obtain ⟨a, dx, us, rfl, k1, k2⟩ := da_fi g2
          exact ⟨a, dx, us, rfl, c _ _ k1, fdAll_mono c k2⟩
        | i D2 C fs =>
          obtain ⟨rfl, k1, k2, dx, us, k3, k4⟩ := da_i g2
          exact ⟨rfl, ⟨k1, fun q => by rw [q, h5] at k3; cases k3⟩, k2, dx, us, k3, fdAll_mono c k4⟩
        | o D2 ys =>
          obtain ⟨rfl, k1, k2, us, k3, k4⟩ := da_o g2
          exact ⟨rfl, ⟨k1, fun q => hu j ys e (by rw [← q]; exact hj)⟩, k2, us, k3, dpAll_mono c _ _ k4⟩
        | m D2 ys =>
          obtain ⟨rfl, k1, k2, us, k3, k4⟩ := da_m g2
          exact ⟨rfl, ⟨k1, fun q => by rw [q, h5] at k3; cases k3⟩, k2, us, k3, dpAll_mono c _ _ k4⟩
        | s P => exact fun H2 s2 => g2 H2 (same_tr c s2)
    · by_cases e : j = i
      · subst e
        rw [List.getElem?_set, if_pos rfl] at z
        split at z
        · cases z
          cases hD2
        · cases z
      · rw [List.getElem?_set_ne (Ne.symm e)] at z
        exact s.ow j y z D2 hD2⟩
/-- the state behind a change of an own list -/
theorem Sx.chg {Z : Hp} {X : Addr → Prop} {H : Hp} {σ : L2.St} {i : Nat} {D : Addr} {xs ys : List PyData} {us : List V} (s : Sx K bx X0 H0 Z X H σ ρ) (hi : ρ[i]? = some (some (.o D xs))) (hu : ∀ (j : Nat) (ys : List PyData), j ≠ i → ρ[j]? ≠ some (some (.o D ys)))
    (d : DpAll K (core X H) us ys) : Sx K bx X0 H0 Z X (upd H D (.lst us)) σ (ρ.set i (some (.o D ys))) := by
  obtain ⟨v, h1, h2⟩ := s.at_ i _ hi
  obtain ⟨rfl, h3, h4, vs, h5, h6⟩ := da_o h2
  have n0 := s.ow i _ hi D rfl
  have cu : core X (upd H D (.lst us)) = core X H := core_upd h3
  refine ⟨⟨⟨s.sub, fun b z => ?_, fun b z => ?_, s.s0, s.fr.upd n0 h4 (nc_lst h5)⟩, by rw [List.length_set]; exact s.len, fun j x hj => ?_⟩, s.nw, s.d0, fun j y z D2 hD2 => ?_, by rw [cu]; exact s.kz⟩
  · by_cases z2 : b = D
    · rw [z2, upd_same]
      exact ⟨_, rfl, mut_lst⟩
    · rw [upd_ne z2]
      exact s.mu b z
  · obtain ⟨x, y, z2, q⟩ := s.bo b z
    exact ⟨x, y, z2, by rw [upd_ne (fun z3 => h4 (by rw [← z3]; exact z))]; exact q⟩
  · by_cases e : j = i
    · subst e
      rw [List.getElem?_set, if_pos rfl] at hj
      split at hj
      · cases hj
        exact ⟨_, h1, ok_o h3 h4 upd_same (by rw [cu]; exact d)⟩
      · cases hj
    · rw [List.getElem?_set_ne (Ne.symm e)] at hj
      obtain ⟨u, g1, g2⟩ := s.at_ j x hj
      refine ⟨u, g1, ?_⟩
      cases x with
      | d x =>
        show Dp K (core _ _) u x
        rw [cu]
        exact da_d g2
      | v x => exact g2
      | ls xs =>
        obtain ⟨a, us, rfl, k1, k2⟩ := da_ls g2
        exact ⟨a, us, rfl, by rw [cu]; exact k1, by rw [cu]; exact k2⟩
      | pt zs =>
        obtain ⟨a, o, us, rfl, k1, k2, k3⟩ := da_pt g2
        exact ⟨a, o, us, rfl, by rw [cu]; exact k1, k2, by rw [cu]; exact k3⟩
      | fm zs =>
        obtain ⟨a, us, rfl, k1, k2⟩ := da_fm g2
        exact ⟨a, us, rfl, by rw [cu]; exact k1, by rw [cu]; exact k2⟩
      | fi C fs =>
        obtain ⟨a, dx, us, rfl, k1, k2⟩ := da_fi g2
        exact ⟨a, dx, us, rfl, by rw [cu]; exact k1, by rw [cu]; exact k2⟩
      | i D2 C fs =>
        obtain ⟨rfl, k1, k2, dx, us, k3, k4⟩ := da_i g2
        have nd : D2 ≠ D := fun q => by
          rw [q, h5] at k3
          cases k3
        exact ⟨rfl, k1, k2, dx, us, by rw [upd_ne nd]; exact k3, by rw [cu]; exact k4⟩
      | m D2 zs =>
        obtain ⟨rfl, k1, k2, us, k3, k4⟩ := da_m g2
        have nd : D2 ≠ D := fun q => by
          rw [q, h5] at k3
          cases k3
        exact ⟨rfl, k1, k2, us, by rw [upd_ne nd]; exact k3, by rw [cu]; exact k4⟩
      | o D2 zs =>
        obtain ⟨rfl, k1, k2, us, k3, k4⟩ := da_o g2
        have nd : D2 ≠ D := fun q => hu j zs e (by rw [← q]; exact hj)
        exact ⟨rfl, k1, k2, us, by rw [upd_ne nd]; exact k3, by rw [cu]; exact k4⟩
      | s P =>
        intro H2 s2
        rw [cu] at s2
        exact g2 H2 s2
  · by_cases e : j = i
    · subst e
      rw [List.getElem?_set, if_pos rfl] at z
      split at z
      · cases z
        cases hD2
        exact n0
      · cases z
    · rw [List.getElem?_set_ne (Ne.symm e)] at z
      exact s.ow j y z D2 hD2
theorem ws_append {i : Nat} {D : Addr} {xs : List PyData} {ta : TA} (hi : ρ[i]? = some (some (.o D xs))) (hu : ∀ (j : Nat) (ys : List PyData), j ≠ i → ρ[j]? ≠ some (some (.o D ys))) (few : xs.length < 100000)
    (h : WA K bx X0 H0 ta ρ fun ys => ∃ x y, ys = [x] ∧ dat? x = some y ∧ N (ρ.set i (some (.o D (xs ++ [y]))))) : WS K bx X0 H0 (tDrop (tBM K "list" rAppend (tVar i) ta)) ρ N R B C :=
  ⟨fun Z X H σ s Dd d1 _ _ _ => by
    obtain ⟨v, h1, h2⟩ := s.at_ i _ hi
    obtain ⟨rfl, h3, h4, vs, h5, h6⟩ := da_o h2
    refine ⟨_, h1, .inl ⟨rfl, _, SqL.of h5⟩, h X H σ s.toEn _ fun us ys H1 f d ⟨x, y, e1, e2, q⟩ => ?_⟩
    subst e1
    obtain ⟨u, rfl, du⟩ := da1 d
    have big : 100000 ≤ sizeLine := by decide
    have s1 := s.go' f
    have h7 := f.kp _ _ h4 (fun ps z => by cases z) h5
    have h8 := dpAll_mono (core_fr f s.sub) _ _ h6
    exact ⟨D, vs, u, rfl, rfl, h7, by rw [dpAll_len h6]; omega, d1 _ X _ σ q (s1.chg hi hu (dpAll_app h8 (.cons (da_dp du e2) .nil)))⟩⟩
theorem ws_extend {i : Nat} {D : Addr} {xs : List PyData} {ta : TA} (hi : ρ[i]? = some (some (.o D xs))) (hu : ∀ (j : Nat) (ys : List PyData), j ≠ i → ρ[j]? ≠ some (some (.o D ys)))
    (h : WA K bx X0 H0 ta ρ fun ys => ∃ zs, ys = [.ls zs] ∧ xs.length + zs.length ≤ 100000 ∧ N (ρ.set i (some (.o D (xs ++ zs))))) : WS K bx X0 H0 (tDrop (tBM K "list" rExtend (tVar i) ta)) ρ N R B C :=
  ⟨fun Z X H σ s Dd d1 _ _ _ => by
    obtain ⟨v, h1, h2⟩ := s.at_ i _ hi
    obtain ⟨rfl, h3, h4, vs, h5, h6⟩ := da_o h2
    refine ⟨_, h1, .inl ⟨rfl, _, SqL.of h5⟩, h X H σ s.toEn _ fun us ys H1 f d ⟨zs, e1, few, q⟩ => ?_⟩
    subst e1
    obtain ⟨u, rfl, du⟩ := da1 d
    obtain ⟨a, ws, rfl, g1, g2⟩ := da_ls du
    have big : 100000 ≤ sizeLine := by decide
    have s1 := s.go' f
    have h7 := f.kp _ _ h4 (fun ps z => by cases z) h5
    have h8 := dpAll_mono (core_fr f s.sub) _ _ h6
    exact ⟨D, a, vs, ws, rfl, rfl, h7, core_le _ _ g1, by rw [dpAll_len h6, dpAll_len g2]; omega, d1 _ X _ σ q (s1.chg hi hu (dpAll_app h8 g2))⟩⟩
theorem ws_drop {te : TE} (h : W K bx X0 H0 te ρ fun _ => N ρ) : WS K bx X0 H0 (tDrop te) ρ N R B C :=
  ⟨fun Z X H σ s D d1 _ _ _ => h X H σ s.toEn _ fun v x H1 f d q => d1 ρ X H1 σ q (s.go' f)⟩
theorem ws_if {c : TT} {t u : TS} (h : WT K bx X0 H0 c ρ fun b => (b = true → WS K bx X0 H0 t ρ N R B C) ∧ (b = false → WS K bx X0 H0 u ρ N R B C)) : WS K bx X0 H0 (tIfS c t u) ρ N R B C :=
  ⟨fun Z X H σ s D d1 d2 d3 d4 => h X H σ s.toEn _ fun b H1 f q => ite2 (fun z => (q.1 z).run Z X H1 σ (s.go' f) D d1 d2 d3 d4) fun z => (q.2 (by simpa using z)).run Z X H1 σ (s.go' f) D d1 d2 d3 d4⟩
/-- for g in it: body, by an invariant of the turns and the slots -/
theorem ws_for {wi : TI} {g : TG} {tb : TS} (vs : List Nat) (h : WI K bx X0 H0 wi ρ fun ds => ∃ I : Nat → Rho → Prop, I 0 ρ ∧
      (∀ i d ρ', ds[i]? = some d → I i ρ' → WG K bx X0 H0 g vs ρ' d fun ρ2 => WS K bx X0 H0 tb ρ2 (I (i + 1)) R N (I (i + 1))) ∧ ∀ ρ', I ds.length ρ' → N ρ') : WS K bx X0 H0 (tFor wi g tb) ρ N R B C :=
  ⟨fun Z X H σ s D d1 d2 d3 d4 => h X H σ s.toEn _ fun J n G Y ds H1 w hn f st yd ⟨I, i0, is, ie⟩ => by
    have s1 := s.go' f
    refine for_it w (fun i σ' H' => ∃ ρ' X', I i ρ' ∧ Sx K bx X0 H0 (core X H1) X' H' σ' ρ') ⟨ρ, X, i0, ⟨s1.toEn, s1.nw, s1.d0, s1.ow, fun _ _ z => z⟩⟩ (fun i σ' H' hi p => ?_) (fun i v σ' H2 H3 hi p y => ?_) (fun σ' H' p => ?_)
    · obtain ⟨ρ', X', _, s2⟩ := p
      exact st X' H' s2.kz
    · obtain ⟨ρ', X', hI, s2⟩ := p
      obtain ⟨d, hd, f3, dv⟩ := yd i X' H2 v H3 s2.kz s2.sub s2.dm hi y
      have s3 := s2.go' f3
      refine is i d ρ' hd hI X' H3 σ' v s3.toEn dv _ fun ρ2 σ2 hN e2 _ nn => ?_
      exact hN.run (core X H1) X' H3 σ2 (s3.pat e2 nn) _ (fun ρ3 X3 H4 σ3 q s4 => ⟨ρ3, X3, q, s4⟩) d2 (fun ρ3 X3 H4 σ3 q s4 => d1 ρ3 X3 H4 σ3 q (s4.upto s1.kz)) (fun ρ3 X3 H4 σ3 q s4 => ⟨ρ3, X3, q, s4⟩)
    · obtain ⟨ρ', X', hI, s2⟩ := p
      exact d1 ρ' X' H' σ' (ie ρ' (by rw [hn]; exact hI)) (s2.upto s1.kz)⟩
/-- while: an invariant with a measure -/
theorem ws_while {c : TT} {tb : TS} (I : Nat → Rho → Prop) (m : Nat) (h0 : I m ρ) (h : ∀ m ρ', I m ρ' → WT K bx X0 H0 c ρ' fun b => (b = true → WS K bx X0 H0 tb ρ' (fun ρ2 => ∃ m', m' < m ∧ I m' ρ2) R N fun ρ2 => ∃ m', m' < m ∧ I m' ρ2) ∧ (b = false → N ρ')) : WS K bx X0 H0 (tWhile c tb) ρ N R B C :=
  ⟨fun Z X H σ s D d1 d2 d3 d4 => by
    refine ⟨fun m σ' H' => ∃ ρ' X', I m ρ' ∧ Sx K bx X0 H0 Z X' H' σ' ρ', ⟨m, ρ, X, h0, s⟩, fun m σ' H' p => ?_⟩
    obtain ⟨ρ', X', hI, s2⟩ := p
    refine h m ρ' hI X' H' σ' s2.toEn _ fun b H1 f q => ite2 (fun z => ?_) (fun z => ?_)
    · exact ⟨fun σ3 H3 => ∃ m', m' < m ∧ ∃ ρ3 X3, I m' ρ3 ∧ Sx K bx X0 H0 Z X3 H3 σ3 ρ3, fun σ3 H3 z => z, (q.1 z).run Z X' H1 σ' (s2.go' f) _ (fun ρ3 X3 H4 σ3 ⟨m', lt, q⟩ s4 => ⟨m', lt, ρ3, X3, q, s4⟩) d2 d1 (fun ρ3 X3 H4 σ3 ⟨m', lt, q⟩ s4 => ⟨m', lt, ρ3, X3, q, s4⟩)⟩
    · exact d1 ρ' X' H1 σ' (q.2 (by simpa using z)) (s2.go' f)⟩
theorem Sx.forget {Z : Hp} {X : Addr → Prop} {H : Hp} {σ : L2.St} {i : Nat} (s : Sx K bx X0 H0 Z X H σ ρ) : Sx K bx X0 H0 Z X H σ (ρ.set i none) := ⟨s.toEn.forget, s.nw, s.d0, fun j y h D hD => by
    by_cases c : j = i
    · subst c
      rw [List.getElem?_set, if_pos rfl] at h
      split at h <;> cases h
    · rw [List.getElem?_set_ne (Ne.symm c)] at h
      exact s.ow j y h D hD, s.kz⟩
theorem Sx.forgets {Z : Hp} {X : Addr → Prop} {H : Hp} {σ : L2.St} (s : Sx K bx X0 H0 Z X H σ ρ) : ∀ hv : List Nat, Sx K bx X0 H0 Z X H σ (wipeR ρ hv)
  | [] => s
  | i :: r => (s.forgets r).forget
theorem En.forgets {X : Addr → Prop} {H : Hp} {σ : L2.St} (s : En K bx X0 H0 X H σ ρ) : ∀ hv : List Nat, En K bx X0 H0 X H σ (wipeR ρ hv)
  | [] => s
  | i :: r => (s.forgets r).forget
/-- slots forgotten -/
theorem ws_forget {t : TS} (hv : List Nat) (h : WS K bx X0 H0 t (wipeR ρ hv) N R B C) : WS K bx X0 H0 t ρ N R B C := ⟨fun Z X H σ s D => h.run Z X H σ (s.forgets hv) D⟩
/-- for g in it: body; then the rest: the slots hv are forgotten at each turn's end -/
theorem ws_forS {wi : TI} {g : TG} {tb u : TS} (vs hv : List Nat) (h : WI K bx X0 H0 wi ρ fun ds => ∃ I : Nat → Rho → Prop, I 0 (wipeR ρ hv) ∧
      (∀ i d ρ', ds[i]? = some d → I i ρ' → WG K bx X0 H0 g vs ρ' d fun ρ2 => WS K bx X0 H0 tb ρ2 (fun ρ3 => I (i + 1) (wipeR ρ3 hv)) R (fun ρ3 => WS K bx X0 H0 u ρ3 N R B C) (fun ρ3 => I (i + 1) (wipeR ρ3 hv))) ∧ ∀ ρ', I ds.length ρ' → WS K bx X0 H0 u ρ' N R B C) : WS K bx X0 H0 (tSeq (tFor wi g tb) u) ρ N R B C :=
  ws_seq (ws_for vs fun X H σ e R' k => h X H σ e R' fun J n G Y ds H' w hn f st yd ⟨I, i0, is, ie⟩ => k J n G Y ds H' w hn f st yd
    ⟨fun i ρ' => I i (wipeR ρ' hv), i0, fun i d ρ' hd hI X H σ v e dv Q kq => is i d _ hd hI X H σ v (e.forgets hv) dv Q fun ρ2 σ2 hN e2 w2 n2 => kq ρ2 σ2 hN e2 w2 fun j x hj o => wipeR_own (n2 j x hj o), fun ρ' hI => ws_forget hv (ie _ hI)⟩)
/-- the only own list -/
def dO : Option Dat → Bool
  | some x => isO x
  | none => false
theorem only1 {i : Nat} {D : Addr} (h : (ρ.set i none).all (fun e => !dO e) = true) : ∀ (j : Nat) (ys : List PyData), j ≠ i → ρ[j]? ≠ some (some (.o D ys)) := fun j ys n e => by
  have m : some (Dat.o D ys) ∈ ρ.set i none := List.mem_of_getElem? (i := j) (by rw [List.getElem?_set_ne (Ne.symm n)]; exact e)
  have := List.all_eq_true.mp h _ m
  cases this
end
end Say

set_option Elab.async false
set_option linter.all false
set_option maxRecDepth 100000
set_option maxHeartbeats 4000000
namespace Say
universe u
open PySem PySem.Spec PyProof.Rows L2
/-! ### 7. defs -/
/-- an error: its class, its fields -/
structure Exn where
  cls : Addr
  fs : List (Str × PyData)
structure FnA (α : Type u) where
  args : α → List Dat
  pre : (Addr → Prop) → α → Prop
  post : α → Dat → Prop
  exn : α → Exn → Prop
def GivesE (K : PySem.W.Frag) (bx X : Addr → Prop) (H : Hp) (E : XK) (e : Exn) : Prop := ∀ (H' : Hp) (dd : Addr) (vs : List V), Fr bx H H' → DpAll K (core X H') vs (e.fs.map (·.2)) → H' dd = some (.xd ((e.fs.map (·.1)).zip vs)) → E (.ref e.cls) (some dd) H'
/-- the promise of a def told by data -/
def spA {α : Type u} (K : PySem.W.Frag) (f : FnA α) : Sp := fun vs H Q E => ∃ (a : α) (bx X : Addr → Prop), EnX bx X H X H ∧ DaAll K bx X H vs (f.args a) ∧ (∀ x ∈ f.args a, isO x = false) ∧ f.pre bx a ∧
  (∀ x, f.post a x → ∀ v H', Fr bx H H' → DaOk K bx X H' v x → Q v H') ∧ ∀ e, f.exn a e → GivesE K bx X H E e
theorem nones_get {n i : Nat} : (List.replicate n (none : Option Dat))[i]? ≠ some (some x) := fun h => by
  rw [List.getElem?_replicate] at h
  split at h <;> cases h
theorem daAll_get {K : PySem.W.Frag} {bx X : Addr → Prop} {H : Hp} : ∀ {vs : List V} {xs : List Dat} {i : Nat} {x : Dat}, DaAll K bx X H vs xs → xs[i]? = some x → ∃ v, vs[i]? = some v ∧ DaOk K bx X H v x
  | _, _, _, _, .nil, e => by simp at e
  | _, _, 0, _, .cons h _, e => by
    simp only [List.getElem?_cons_zero, Option.some.injEq] at e
    subst e
    exact ⟨_, rfl, h⟩
  | _, _, i + 1, _, .cons _ t, e => by
    simp only [List.getElem?_cons_succ] at e ⊢
    exact daAll_get t e
/-- the slots at a def's start -/
def start0 (xs : List Dat) (n : Nat) : Rho := xs.map some ++ List.replicate n none
theorem sx_start {K : PySem.W.Frag} {bx X : Addr → Prop} {H : Hp} {vs : List V} {xs : List Dat} {N : List Str} {n : Nat} (e : EnX bx X H X H) (d : DaAll K bx X H vs xs) (o : ∀ x ∈ xs, isO x = false) (hn : N.length - xs.length = n) : Sx K bx X H (core X H) X H (L2.start N vs) (start0 xs n) := by
  have l := daAll_len d
  refine ⟨⟨e, ?_, fun i x h => ?_⟩, fun b z => .inl z, e.dm, fun i y h D hD => ?_, fun _ _ z => z⟩
  · unfold L2.start start0
    rw [List.length_append, List.length_append, List.length_map, List.length_map, List.length_replicate, List.length_replicate, l, hn]
  · unfold start0 at h
    unfold L2.start
    rw [List.getElem?_append] at h ⊢
    split at h
    · rename_i c
      rw [List.length_map] at c
      rw [if_pos (by rw [List.length_map, l]; exact c)]
      rw [List.getElem?_map] at h
      cases e1 : xs[i]? with
      | none =>
        rw [e1] at h
        cases h
      | some y =>
        rw [e1] at h
        cases h
        obtain ⟨v, h1, h2⟩ := daAll_get d e1
        exact ⟨v, by rw [List.getElem?_map, h1]; rfl, h2⟩
    · exact absurd h nones_get
  · unfold start0 at h
    rw [List.getElem?_append] at h
    split at h
    · rw [List.getElem?_map] at h
      cases e1 : xs[i]? with
      | none =>
        rw [e1] at h
        cases h
      | some y =>
        rw [e1] at h
        cases h
        have := o _ (List.mem_of_getElem? e1)
        rw [isO_own hD] at this
        cases this
    · exact absurd h nones_get
section
variable {P : Program} {w : World} {K : PySem.W.Frag} {mg : Str → Option Value} {base : Heap} {x qual : Str} {params : Arguments} {body : List Stmt} {scope : Scope} {dvs : List V} {kws : List (Str × V)} {f : Addr} {fd : FuncData}
/-- THE RULE for a def told by data -/
theorem fnA_ok {α : Type u} {CX : CXT} {N ps : List Str} {k : Nat} {g : FnA α} (F : FunD K x qual params body scope dvs kws f fd) (S : FnScope N ps scope) (hl : ∀ a, (g.args a).length = ps.length)
    (hb : ∀ (cdv : Value) (A : Around) (outer : List Env) (s : Shared) (H : Hp) (E : XK), Room k (A.deeper (envOfC qual scope s.heap.objs.size f cdv)) →
      ∃ t, PSs (cxOf CX P w K mg base N qual scope f cdv A outer s H E) body t ∧ ∀ (a : α) (bx X : Addr → Prop), (∀ b, bx b → X b) → g.pre bx a → (∀ e, g.exn a e → GivesE K bx X H E e) →
        WS K bx X H t (start0 (g.args a) (N.length - ps.length)) (fun _ => g.post a (.d .none)) (g.post a) (fun _ => False) (fun _ => False)) : FnOk P w K mg base CX (k + 1) f fd ps (spA K g) := by
  refine F.ok S (fun vs H Q E h => ?_) fun cdv A ou s H vs Q E hr h => ?_
  · obtain ⟨a, bx, X, _, d, _⟩ := h
    rw [daAll_len d, hl a]
  · obtain ⟨t, h1, h2⟩ := hb cdv A ou s H E hr
    refine ⟨t, h1, ?_⟩
    obtain ⟨a, bx, X, e, d, o, p, q, qe⟩ := h
    refine (h2 a bx X e.sub p qe).run (core X H) X H _ (sx_start e d o (by rw [hl a])) _ (fun ρ' X' H' σ' hN s' => q _ hN .non H' s'.fr (ok_d .non)) (fun y v H' hR e' dv => q y hR v H' e'.fr dv) (fun _ _ _ _ z => z.elim) (fun _ _ _ _ z => z.elim)
end
/-- a def that keeps its promise, and where it stands; dvs its defaults -/
def GdS (P : Program) (w : World) (K : PySem.W.Frag) (mg : Str → Option Value) (base : Heap) (CX : CXT) (k : Nat) (x : Str) (ps : List Str) (dvs : List V) (sp : Sp) : Prop :=
  ∃ fd ds, FnOk P w K mg base CX k (He.ga K x) fd ps sp ∧ (Vals dvs ds ∧ Binds K fd ps ds) ∧ PySem.W.keepIn K (.ref (He.ga K x)) = true
abbrev Gd {α : Type u} (P : Program) (w : World) (K : PySem.W.Frag) (mg : Str → Option Value) (base : Heap) (CX : CXT) (k : Nat) (x : Str) (ps : List Str) (dvs : List V) (g : FnA α) : Prop := GdS P w K mg base CX k x ps dvs (spA K g)
theorem pe_gd {sp : Sp} {X : Cx} {CX : CXT} {k : Nat} {x : Str} {ps : List Str} {E : XK} {e : Expr} {es : List Expr} {t : TA} {p pos : Pos} {dvs : List V} (h : GdS X.prog X.w X.K X.mg X.base CX k x ps dvs sp) (hr : Room k X.A) (hg : Gl X x) (hm : X.mg x = some (.ref (He.ga X.K x))) (hx : Passes CX X E)
    (ha : PA X (e :: es) t) (hdb : (x == ("__debug__" : Str)) = false := by decide) (he : starEach (e :: es) X.env = (false, eval e X.env) :: starEach es X.env := by rfl) (hpl : (backTo pos (starEach es X.env)).any (·.1) = false := by rfl) :
    PE X (.Call (.Name x p) (e :: es) [] pos) (tCall sp dvs E t) := by
  obtain ⟨fd, ds, F, ⟨hd, b⟩, kp⟩ := h
  exact pe_call F hr hg hm kp b hd hx ha hdb he hpl
section
variable {K : PySem.W.Frag} {bx X0 : Addr → Prop} {H0 : Hp} {ρ : Rho} {Φ : Dat → Prop}
theorem daAll_app {X : Addr → Prop} {H : Hp} : ∀ {vs us : List V} {xs ys : List Dat}, DaAll K bx X H vs xs → DaAll K bx X H us ys → DaAll K bx X H (vs ++ us) (xs ++ ys)
  | _, _, _, _, .nil, h => h
  | _, _, _, _, .cons a b, h => .cons a (daAll_app b h)
/-- what a default is as data -/
def cDat : V → Dat
  | .int i => .d (.int i)
  | .bl b => .d (.bool b)
  | .str x => .d (.str x)
  | .non => .d .none
  | v => .v v
theorem cDat_ok {X : Addr → Prop} {H : Hp} : ∀ v : V, DaOk K bx X H v (cDat v)
  | .int i => ok_d (.int i)
  | .bl b => ok_d (.bl b)
  | .str x => ok_d (.str x)
  | .non => ok_d .non
  | .byt _ => rfl
  | .flt _ => rfl
  | .ref _ => rfl
  | .ty _ => rfl
theorem cDat_o : ∀ v : V, isO (cDat v) = false
  | .int i => rfl
  | .bl b => rfl
  | .str x => rfl
  | .non => rfl
  | .byt _ => rfl
  | .flt _ => rfl
  | .ref _ => rfl
  | .ty _ => rfl
theorem cDats {X : Addr → Prop} {H : Hp} : ∀ vs : List V, DaAll K bx X H vs (vs.map cDat)
  | [] => .nil
  | v :: vs => .cons (cDat_ok v) (cDats vs)
/-- as an argument: a plain list is a list -/
def normD : Dat → Dat
  | .ls xs => .d (.list xs)
  | .pt xs => .d (.tuple xs)
  | x => x
theorem norm_ok {X : Addr → Prop} {H : Hp} {v : V} : ∀ {x : Dat}, DaOk K bx X H v x → DaOk K bx X H v (normD x)
  | .d _, h => h
  | .v _, h => h
  | .ls xs, h => ok_d (da_dp (x := .ls xs) h rfl)
  | .pt xs, h => ok_d (da_dp (x := .pt xs) h rfl)
  | .m _ _, h => h
  | .fm _, h => h
  | .fi _ _, h => h
  | .i _ _ _, h => h
  | .o _ _, h => h
  | .s _, h => h
theorem norms_ok {X : Addr → Prop} {H : Hp} : ∀ {vs : List V} {xs : List Dat}, DaAll K bx X H vs xs → DaAll K bx X H vs (xs.map normD)
  | _, _, .nil => .nil
  | _, _, .cons a b => .cons (norm_ok a) (norms_ok b)
theorem norm_o : ∀ {x : Dat}, isO x = false → isO (normD x) = false
  | .d _, h => h
  | .v _, h => h
  | .ls _, _ => rfl
  | .pt _, _ => rfl
  | .m _ _, h => h
  | .fm _, h => h
  | .fi _ _, h => h
  | .i _ _ _, h => h
  | .o _ _, h => h
  | .s _, h => h
/-- none of them may still change -/
def noO : List Dat → Bool
  | [] => true
  | x :: r => !isO x && noO r
theorem noO_mem : ∀ {xs : List Dat}, noO xs = true → ∀ x ∈ xs, isO x = false
  | y :: r, h, x, hx => by
    have h' : (!isO y && noO r) = true := h
    rw [Bool.and_eq_true, Bool.not_eq_true'] at h'
    rcases List.mem_cons.mp hx with rfl | hx
    · exact h'.1
    · exact noO_mem h'.2 x hx
/-- a call of such a def -/
theorem w_call {α : Type u} {g : FnA α} {dvs : List V} {E : XK} {t : TA} (h : WA K bx X0 H0 t ρ fun xs => ∃ a, xs.map normD ++ dvs.map cDat = g.args a ∧ noO xs = true ∧ g.pre bx a ∧ (∀ x, g.post a x → Φ x) ∧ ∀ e, g.exn a e → GivesE K bx X0 H0 E e) : W K bx X0 H0 (tCall (spA K g) dvs E t) ρ Φ := fun X H σ e Q k =>
  h X H σ e _ fun vs xs H1 f d ⟨a, e1, o, p, q, qe⟩ => by
    have e2 := e.toEnX.go f
    refine ⟨a, bx, X, ⟨e2.sub, e2.mu, e2.bo, fun _ z => z, .refl H1⟩, by rw [← e1]; exact daAll_app (norms_ok d) (cDats dvs), fun x hx => ?_, p, fun x hx v H2 f2 dv => k v x H2 (f.trans f2) dv (q x hx), fun ex he H2 dd vs2 f2 dv hd => qe ex he H2 dd vs2 (e2.fr.trans f2) (dpAll_mono (core_sub e.s0) _ _ dv) hd⟩
    rw [← e1] at hx
    rcases List.mem_append.mp hx with z | z
    · obtain ⟨y, hy, rfl⟩ := List.mem_map.mp z
      exact norm_o (noO_mem o y hy)
    · obtain ⟨v, _, rfl⟩ := List.mem_map.mp z
      exact cDat_o v
/-- .. without defaults, errors -/
theorem w_call0 {α : Type u} {g : FnA α} {E : XK} {t : TA} (h : WA K bx X0 H0 t ρ fun xs => ∃ a, xs.map normD = g.args a ∧ noO xs = true ∧ g.pre bx a ∧ (∀ x, g.post a x → Φ x) ∧ ∀ e, ¬ g.exn a e) : W K bx X0 H0 (tCall (spA K g) [] E t) ρ Φ :=
  w_call fun X H σ e Q k => h X H σ e Q fun vs xs H' f d ⟨a, e1, o, p, q, qe⟩ => k vs xs H' f d ⟨a, by rw [List.map_nil, List.append_nil]; exact e1, o, p, q, fun e he => absurd he (qe e)⟩
/-- a def that answers by a function of what it is given -/
abbrev fnF {α : Type u} (args : α → List Dat) (pre : α → Prop) (r : α → Dat) : FnA α := ⟨args, fun _ a => pre a, fun a x => x = r a, fun _ _ => False⟩
theorem w_callF {α : Type u} {args : α → List Dat} {pre : α → Prop} {r : α → Dat} {dvs : List V} {E : XK} {t : TA} (h : WA K bx X0 H0 t ρ fun xs => ∃ a, xs.map normD ++ dvs.map cDat = args a ∧ noO xs = true ∧ pre a ∧ Φ (r a)) : W K bx X0 H0 (tCall (spA K (fnF args pre r)) dvs E t) ρ Φ :=
  w_call fun X H σ e Q k => h X H σ e Q fun vs xs H' f d ⟨a, e1, o, p, q⟩ => k vs xs H' f d ⟨a, e1, o, p, fun x hx => by
    have hx' : x = r a := hx
    rw [hx']
    exact q, fun e he => False.elim he⟩
/-- raise C(e) of an error with one field -/
theorem ws_raise {N : Rho → Prop} {R : Dat → Prop} {B C : Rho → Prop} {Ca : Addr} {fl : Str} {te : TE} {E : XK} (h : W K bx X0 H0 te ρ fun x => ∃ y, dat? x = some y ∧ GivesE K bx X0 H0 E ⟨Ca, [(fl, y)]⟩) :
    WS K bx X0 H0 (fun _ σ H => tMkE Ca (spIni fl Ca) [] (tCons te tNil) σ H fun cls d H' => E cls d H') ρ N R B C :=
  ⟨fun Z X H σ s D _ _ _ _ => h X H σ s.toEn _ fun v x H1 f d ⟨y, e, q⟩ => ini_go fun dd H' s1 e1 => by
    have dv := dp_mono (core_sub s.s0) _ _ (da_dp d e)
    refine q H' dd [v] (s.fr.trans (f.trans (.of s1))) (.cons (dp_mono (core_fr (bx := fun _ => False) (.of s1) fun b z => z.elim) _ _ dv) .nil) e1⟩
end
end Say

set_option Elab.async false
set_option linter.all false
set_option maxRecDepth 100000
set_option maxHeartbeats 4000000
namespace Say
open PySem PySem.Spec PyProof.Rows L2
theorem lek {a b : Nat} (h : Nat.ble a b = true) : a ≤ b := Nat.le_of_ble_eq_true h
theorem pg_tupK {X : Cx} {es : List Expr} {k : Nat} {t : TGs} {n : Nat} {pos : Pos} (K : PySem.W.Frag) (e : X.K = K) (hc : X.calm = true) (h : PGs X es t) (hn : (assignEach es X.env).length = n := by rfl) (hst : (assignEach es X.env).findIdx? (·.1) = none := by rfl) : PG X (.Tuple es k pos) (gTup K n t) := e ▸ pg_tup hc h hn hst
theorem cataK {X : Cx} (K : PySem.W.Frag) (h : X.K = K) : OpR X (binaryOp .Add) (rCatA K) := h ▸ op_catA
def rLenQ (K : PySem.W.Frag) : List V → Hp → VK → Prop := fun xs H Q => ∃ p ys, xs = [.ref p] ∧ (SqL K H p ys ∨ SqT K H p ys) ∧ Q (.int ys.length) H
theorem pow2_8 {n : Nat} (h : n ≤ 3) : 2 ^ n ≤ 8 := Nat.le_trans (Nat.pow_le_pow_right (by decide) h) (by decide)
theorem pe_isiK {X : Cx} {e : Expr} {te : TE} {p p2 pos : Pos} {x : Str} {T : String} (K : PySem.W.Frag) (hK : X.K = K) (he : PE X e te) (gi : X.mg "isinstance" = none) (gT : X.mg x = none) (hb : bootBuiltins x = some (.type T))
    (h1 : Gl X "isinstance" := by rfl) (h2 : Gl X x := by rfl) (hn : x ≠ "__name__" := by decide) (hd : (x == ("__debug__" : Str)) = false := by decide)
    (hs : starEach [e, .Name x p2] X.env = (false, eval e X.env) :: starEach [.Name x p2] X.env := by rfl) (hs2 : starEach [.Name x p2] X.env = (false, eval (.Name x p2) X.env) :: starEach [] X.env := by rfl)
    (hpl : (backTo pos (starEach [.Name x p2] X.env)).any (·.1) = false := by rfl) :
    PE X (.Call (.Name "isinstance" p) [e, .Name x p2] [] pos) (tIsi K T te) := hK ▸ pe_isi he gi gT hb h1 h2 hn hd hs hs2 hpl
section
variable {K : PySem.W.Frag} {bx X0 : Addr → Prop} {H0 : Hp} {ρ : Rho} {Φ : Dat → Prop}
theorem w_neg {a : TE} (h : W K bx X0 H0 a ρ fun x => ∃ i, x = .d (.int i) ∧ Φ (.d (.int (-i)))) : W K bx X0 H0 (tUn (rU fun i => .int (-i)) a) ρ Φ := fun X H σ e Q k =>
  h X H σ e _ fun v x H1 f d ⟨i, e1, q⟩ => by
    subst e1
    cases da_d d
    exact ⟨i, rfl, k _ _ H1 f (ok_d (.int _)) q⟩
theorem w_lenQ {t : TA} (h : WA K bx X0 H0 t ρ fun xs => ∃ x ys, xs = [x] ∧ seq? x = some ys ∧ Φ (.d (.int (ys.length : Nat)))) : W K bx X0 H0 (tCB (rLenQ K) t) ρ Φ := w_len h
theorem w_lenS {t : TA} (h : WA K bx X0 H0 t ρ fun xs => ∃ z : Str, xs = [.d (.str z)] ∧ z.length ≤ sizeLine ∧ Φ (.d (.int (z.length : Nat)))) : W K bx X0 H0 (tCB (fun xs H Q => ∃ z, xs = [.str z] ∧ z.length ≤ sizeLine ∧ Q (.int z.length) H) t) ρ Φ :=
  w_cb fun X H σ e Q k => h X H σ e Q fun vs xs H' f d ⟨z, e1, l, q⟩ => k vs xs H' f d fun X H E vs da Q k2 => by
    subst e1
    obtain ⟨v, rfl, d1⟩ := da1 da
    cases da_d d1
    exact ⟨z, rfl, l, k2 _ _ H (.refl H) (ok_d (.int _)) q⟩
theorem w_inStr {a b : TE} (h : W K bx X0 H0 a ρ fun x => W K bx X0 H0 b ρ fun y => ∃ i j : Str, x = .d (.str i) ∧ y = .d (.str j) ∧ Φ (.d (.bool (!(Builtin.Str.occurrences j i 0 j.length 1).isEmpty)))) :
    W K bx X0 H0 (tOp (fun x y H Q => ∃ i j, x = .str i ∧ y = .str j ∧ Q (.bl (!(Builtin.Str.occurrences j i 0 j.length 1).isEmpty)) H) a b) ρ Φ :=
  w_op (h.mono fun x q0 => W.mono q0 fun y ⟨i, j, e1, e2, q⟩ X H E v u d1 d2 Q k => by
    subst e1 e2
    cases da_d d1
    cases da_d d2
    exact ⟨i, j, rfl, rfl, k _ _ H (.refl H) (ok_d (.bl _)) q⟩)
theorem w_eqS {a b : TE} (h : W K bx X0 H0 a ρ fun x => W K bx X0 H0 b ρ fun y => ∃ i j, x = .d (.str i) ∧ y = .d (.str j) ∧ Φ (.d (.bool (decide (i = j))))) : W K bx X0 H0 (tOp rEq a b) ρ Φ :=
  w_op (h.mono fun x q0 => W.mono q0 fun y ⟨i, j, e1, e2, q⟩ X H E v u d1 d2 Q k => by
    subst e1 e2
    cases da_d d1
    cases da_d d2
    refine ⟨rfl, ?_⟩
    have e : decide (V.str i = V.str j) = decide (i = j) := by by_cases c : i = j <;> simp [c]
    rw [e]
    exact k _ _ H (.refl H) (ok_d (Dp.bl _)) q)
theorem strs_in (x : Str) : ∀ bs : List Str, inV (.str x) (bs.map V.str) = decide (x ∈ bs)
  | [] => rfl
  | c :: bs => by
    have ih := strs_in x bs
    unfold inV at ih ⊢
    rw [List.map_cons, List.any_cons, ih]
    show (c == x || _) = _
    by_cases h : c = x
    · subst h
      simp
    · simp [h, Ne.symm h]
/-- x in xs, texts -/
theorem w_inSs {a b : TE} (h : W K bx X0 H0 a ρ fun x => W K bx X0 H0 b ρ fun y => ∃ (i : Str) (ns : List Str), x = .d (.str i) ∧ seq? y = some (ns.map PyData.str) ∧ Φ (.d (.bool (decide (i ∈ ns))))) : W K bx X0 H0 (tOp (rIn K false) a b) ρ Φ :=
  w_op (h.mono fun x q0 => W.mono q0 fun y ⟨i, ns, e1, e2, q⟩ X H E v u d1 d2 Q k => by
    subst e1
    cases da_d d1
    obtain ⟨a, vs, rfl, h1, h2⟩ := da_seq d2 e2
    have := strs_dp h2
    subst this
    refine ⟨a, _, rfl, h1, rfl, by rw [List.all_map]; exact List.all_eq_true.mpr fun _ _ => rfl, ?_⟩
    show Q (.bl (inV (.str i) (ns.map V.str))) H
    rw [strs_in]
    exact k _ _ H (.refl H) (ok_d (Dp.bl _)) q)
theorem w_ninSs {a b : TE} (h : W K bx X0 H0 a ρ fun x => W K bx X0 H0 b ρ fun y => ∃ (i : Str) (ns : List Str), x = .d (.str i) ∧ seq? y = some (ns.map PyData.str) ∧ Φ (.d (.bool (!decide (i ∈ ns))))) : W K bx X0 H0 (tOp (rIn K true) a b) ρ Φ :=
  w_op (h.mono fun x q0 => W.mono q0 fun y ⟨i, ns, e1, e2, q⟩ X H E v u d1 d2 Q k => by
    subst e1
    cases da_d d1
    obtain ⟨a, vs, rfl, h1, h2⟩ := da_seq d2 e2
    have := strs_dp h2
    subst this
    refine ⟨a, _, rfl, h1, rfl, by rw [List.all_map]; exact List.all_eq_true.mpr fun _ _ => rfl, ?_⟩
    show Q (.bl (!inV (.str i) (ns.map V.str))) H
    rw [strs_in]
    exact k _ _ H (.refl H) (ok_d (Dp.bl _)) q)
/-- the signs of a text -/
def signs (z : Str) : List PyData := z.cps.toList.map fun c => .str ⟨#[c]⟩
theorem wi_str {te : TE} {Φ : List PyData → Prop} (h : W K bx X0 H0 te ρ fun x => ∃ z, x = .d (.str z) ∧ Φ (signs z)) : WI K bx X0 H0 (iStr te) ρ Φ := fun X H σ e R k =>
  h X H σ e _ fun v x H1 f d ⟨z, e1, q⟩ => by
    subst e1
    cases da_d d
    refine ⟨z, rfl, k (Its z) z.cps.size _ _ (signs z) H1 walk_str (by unfold signs; rw [List.length_map, Array.length_toList]) f (fun _ _ _ => trivial) ?_ q⟩
    rintro i X' H2 v H3 s _ _ hi ⟨rfl, c, hc, rfl⟩
    refine ⟨.str ⟨#[c]⟩, ?_, .refl _, .str _⟩
    unfold signs
    rw [List.getElem?_map, Array.getElem?_toList, hc]
    rfl
/-- a <= b <= c -/
theorem w_chainL {a b c : TE} (h : W K bx X0 H0 a ρ fun x => W K bx X0 H0 b ρ fun y => ∃ i j, x = .d (.int i) ∧ y = .d (.int j) ∧ (i ≤ j → W K bx X0 H0 c ρ fun z => ∃ k, z = .d (.int k) ∧ Φ (.d (.bool (decide (j ≤ k))))) ∧ (¬ i ≤ j → Φ (.d (.bool false)))) :
    W K bx X0 H0 (tChain (rI0 fun i j => .bl (decide (i ≤ j))) (rI0 fun i j => .bl (decide (i ≤ j))) a b c) ρ Φ := fun X H σ e Q k =>
  h X H σ e _ fun v x H1 f1 d1 q1 => q1 X H1 σ (e.go f1) _ fun u y H2 f2 d2 ⟨i, j, e1, e2, q2, q3⟩ => by
    subst e1 e2
    cases da_d d1
    cases da_d d2
    refine ⟨i, j, rfl, rfl, _, rfl, ite2 (fun z => ?_) (fun z => ?_)⟩
    · refine q2 (of_decide_eq_true z) X H2 σ ((e.go f1).go f2) _ fun w z H3 f3 d3 ⟨l, e3, q4⟩ => ?_
      subst e3
      cases da_d d3
      exact ⟨j, l, rfl, rfl, k _ _ H3 (f1.trans (f2.trans f3)) (ok_d (.bl _)) q4⟩
    · exact k _ _ H2 (f1.trans f2) (ok_d (.bl _)) (q3 (by simpa using z))
/-- a whole number or a text that stands in the module -/
theorem w_cdat {v : V} (q : Φ (cDat v)) : W K bx X0 H0 (tC v) ρ Φ := fun X H σ e Q k => k _ _ H (.refl H) (cDat_ok v) q
theorem filter_tt {α : Type} : ∀ l : List α, l.filter (fun _ => true) = l
  | [] => rfl
  | x :: l => by rw [List.filter_cons_of_pos rfl, filter_tt l]
theorem few {α β : Type} {f : α → β} {l : List α} {n : Nat} (h : l.length ≤ n) (hn : n ≤ 100000 := by decide) : (l.map f).length ≤ 100000 := by
  rw [List.length_map]
  omega
/-- [e for x in xs] -/
theorem wf_map {wi : TI} {g : TG} {te : TE} {vs : List Nat} {Φ : List PyData → Prop}
    (h : WI K bx X0 H0 wi ρ fun ds => ds.length ≤ 100000 ∧ ∃ (α : Type) (as : List α) (en : α → PyData) (fn : α → PyData), ds = as.map en ∧ (∀ a ∈ as, WG K bx X0 H0 g vs (wipeR ρ vs) (en a) fun ρ' => W K bx X0 H0 te ρ' fun x => dat? x = some (fn a)) ∧ Φ (as.map fn)) :
    WF K bx X0 H0 (tLc wi g tYes te vs) ρ Φ := wf_lc fun X H σ e R k => h X H σ e R fun J n G Y ds H' w hn f st yd ⟨few, α, as, en, fn, ha, hs, q⟩ =>
  k J n G Y ds H' w hn f st yd ⟨few, α, as, en, fun _ => true, fn, ha, fun a h X H σ v e dv Q kq => hs a h X H σ v e dv Q fun ρ' σ' hN e2 w2 n2 => kq ρ' σ' (wt_yes ⟨rfl, fun _ => hN⟩) e2 w2 n2, by rw [filter_tt]; exact q⟩
/-- [e for x in xs for y in ys] -/
theorem wf_map2 {wi wi1 : TI} {g g1 : TG} {te : TE} {vs vs1 : List Nat} {Φ : List PyData → Prop}
    (h : WI K bx X0 H0 wi ρ fun ds => ∃ (α β : Type) (as : List α) (en : α → PyData) (bs : α → List β) (en1 : β → PyData) (fn : α → β → PyData), ds = as.map en ∧
      (∀ a ∈ as, WG K bx X0 H0 g vs (wipeR ρ vs) (en a) fun ρ' => WI K bx X0 H0 wi1 ρ' fun es => es = (bs a).map en1 ∧
        ∀ b ∈ bs a, WG K bx X0 H0 g1 vs1 (wipeR ρ' vs1) (en1 b) fun ρ2 => W K bx X0 H0 te ρ2 fun x => dat? x = some (fn a b)) ∧
      (as.flatMap fun a => (bs a).map (fn a)).length ≤ 100000 ∧ Φ (as.flatMap fun a => (bs a).map (fn a))) :
    WF K bx X0 H0 (tLc2 wi g tYes wi1 g1 tYes te vs vs1) ρ Φ := wf_lc2 fun X H σ e R k => h X H σ e R fun J n G Y ds H' w hn f st yd ⟨α, β, as, en, bs, en1, fn, ha, hs, few, q⟩ => by
  have e : (as.filter fun _ => true).flatMap (fun a => ((bs a).filter fun _ => true).map (fn a)) = as.flatMap fun a => (bs a).map (fn a) := by
    rw [filter_tt]
    congr 1
    funext a
    rw [filter_tt]
  refine k J n G Y ds H' w hn f st yd ⟨α, β, as, en, fun _ => true, bs, en1, fun _ _ => true, fn, ha, fun a h X H σ v e dv Q kq => hs a h X H σ v e dv Q fun ρ' σ' hN e2 w2 n2 => kq ρ' σ' (wt_yes ⟨rfl, fun _ => fun X H σ e R k2 => hN X H σ e R fun J n G Y es H' w hn f st yd ⟨he, hb⟩ => k2 J n G Y es H' w hn f st yd ⟨he, fun b hb' X H σ v e dv Q kq2 => hb b hb' X H σ v e dv Q fun ρ3 σ3 hN3 e3 w3 n3 => kq2 ρ3 σ3 (wt_yes ⟨rfl, fun _ => hN3⟩) e3 w3 n3⟩⟩) e2 w2 n2, by rw [e]; exact few, by rw [e]; exact q⟩
mutual
theorem key_firm : ∀ k : NestedKey, firm k.data = true
  | .none => rfl
  | .num _ => rfl
  | .text _ => rfl
  | .tup ks => keys_firm0 ks
theorem keys_firm0 : ∀ ks : List NestedKey, firmAll (NestedKey.datas ks) = true
  | [] => rfl
  | k :: ks => by
    show (firm k.data && firmAll (NestedKey.datas ks)) = true
    rw [key_firm k, keys_firm0 ks]
    rfl
end
theorem keys_firm {β : Type} (key : β → NestedKey) (bs : List β) : firm (.tuple (bs.map fun b => (key b).data)) = true := firmAll_map (fun b => key_firm (key b)) bs
/-- tuple(sorted(set(xs))), xs of nested tuples -/
theorem w_lotN {wd : World} {te : TE} (h : W K bx X0 H0 te ρ fun x => ∃ (y : PyData) (β : Type) (key : β → NestedKey) (bs : List β), dat? x = some y ∧ seq? x = some (bs.map fun b => (key b).data) ∧ Ranked key bs ∧ bs.length < 64 ∧ Φ (.d (.tuple ((ordB (fun b => (key b).data) bs).map fun b => (key b).data)))) :
    W K bx X0 H0 (tCB (rTup K) (tCons (tCB (rSortedN K wd) (tCons (tCB (rSetNk K wd) (tCons te tNil)) tNil)) tNil)) ρ Φ := fun X H σ e Q k =>
  h X H σ e _ fun v x H1 f d ⟨y, β, key, bs, e0, e1, R, few, q⟩ => by
    obtain ⟨a, vs, rfl, h1, h2⟩ := da_seqC d e0 e1
    refine lot_go (P := default) (w := wd) (same_sq core_le h1) (dpAll_mono core_le _ _ h2) R few fun H' t s1 n1 d1 => ?_
    have fr := f.trans (.of (bx := bx) s1)
    refine k _ _ H' fr (ok_d (x := .tuple _) (dp_grow (e.toEnX.go fr).grow _ _ (keys_firm key _) d1)) q
/-- sorted(xs) of a list of unlike nested tuples -/
theorem wf_sortedN {t : TA} {Φ : List PyData → Prop} (h : WA K bx X0 H0 t ρ fun xs => ∃ (x : Dat) (β : Type) (key : β → NestedKey) (bs : List β), xs = [x] ∧ x = .ls (bs.map fun b => (key b).data) ∧ Ranked key bs ∧ bs.Nodup ∧ bs.length ≤ 4000 ∧ Φ ((ordB (fun b => (key b).data) bs).map fun b => (key b).data)) :
    WF K bx X0 H0 (tCB (rSortLN K) t) ρ Φ := fun X H σ e Q k =>
  h X H σ e _ fun vs xs H1 f d ⟨x, β, key, bs, e0, e1, R, nd, few, q⟩ => by
    subst e0 e1
    obtain ⟨v, rfl, d1⟩ := da1 d
    obtain ⟨a, us, rfl, h1, h2⟩ := da_ls d1
    refine sortL_go (SqL.of (core_le _ _ h1)) (dpAll_mono core_le _ _ h2) R nd few fun H' p us2 s1 n1 e2 d2 => ?_
    have fr := f.trans (.of (bx := bx) s1)
    have E' := ((e.toEnX.go f).go (.of (bx := bx) s1))
    refine k p us2 _ H' fr (f.free n1) e2 (dpAll_grow (grow_core fun b z => ?_) _ _ (firmAll_map (fun b => key_firm (key b)) _) d2) q
    exact z.elim (E'.mu b) fun z => ⟨_, by rw [z]; exact e2, mut_lst⟩
end
end Say

set_option Elab.async false
set_option linter.all false
set_option maxRecDepth 100000
set_option maxHeartbeats 4000000
/-! mathematics that many laws share: numbers, premises, rows -/
namespace Say
open PySem PySem.Spec PyProof.Rows L2
def insI (x : Int) : List Int → List Int
  | [] => [x]
  | y :: ys => if x < y then x :: y :: ys else if x = y then y :: ys else y :: insI x ys
def ordI : List Int → List Int
  | [] => []
  | x :: xs => insI x (ordI xs)
theorem mem_insI {x k : Int} : ∀ {ys : List Int}, k ∈ insI x ys ↔ k = x ∨ k ∈ ys
  | [] => by simp [insI]
  | y :: ys => by
    unfold insI
    split
    · simp
    · split
      · rename_i h
        subst h
        simp
      · simp only [List.mem_cons, mem_insI (ys := ys)]
        constructor
        · rintro (h | h | h) <;> simp [h]
        · rintro (h | h | h) <;> simp [h]
theorem mem_ordI {k : Int} : ∀ {xs : List Int}, k ∈ ordI xs ↔ k ∈ xs
  | [] => by simp [ordI]
  | x :: xs => by simp only [ordI, mem_insI, mem_ordI (xs := xs), List.mem_cons]
theorem srt_insI {x : Int} : ∀ {ys : List Int}, ys.Pairwise (· < ·) → (insI x ys).Pairwise (· < ·)
  | [], _ => by simp [insI]
  | y :: ys, h => by
    obtain ⟨h1, h2⟩ := List.pairwise_cons.mp h
    unfold insI
    split
    · rename_i g
      exact List.pairwise_cons.mpr ⟨fun z hz => by
        rcases List.mem_cons.mp hz with rfl | hz
        · exact g
        · have := h1 z hz
          omega, h⟩
    · split
      · exact h
      · refine List.pairwise_cons.mpr ⟨fun z hz => ?_, srt_insI h2⟩
        rcases mem_insI.mp hz with rfl | hz
        · omega
        · exact h1 z hz
theorem srt_ordI : ∀ {xs : List Int}, (ordI xs).Pairwise (· < ·)
  | [] => .nil
  | x :: xs => srt_insI srt_ordI
/-- strictly ascending with the same members: the same -/
theorem srt_eq : ∀ {xs ys : List Int}, xs.Pairwise (· < ·) → ys.Pairwise (· < ·) → (∀ k, k ∈ xs ↔ k ∈ ys) → xs = ys
  | [], [], _, _, _ => rfl
  | [], y :: ys, _, _, h => by
    have := (h y).mpr (by simp)
    simp at this
  | x :: xs, [], _, _, h => by
    have := (h x).mp (by simp)
    simp at this
  | x :: xs, y :: ys, h1, h2, h => by
    obtain ⟨a1, a2⟩ := List.pairwise_cons.mp h1
    obtain ⟨b1, b2⟩ := List.pairwise_cons.mp h2
    have e : x = y := by
      have p := (h x).mp (by simp)
      have q := (h y).mpr (by simp)
      rcases List.mem_cons.mp p with p | p
      · exact p
      · rcases List.mem_cons.mp q with q | q
        · exact q.symm
        · have := a1 y q
          have := b1 x p
          omega
    subst e
    congr 1
    refine srt_eq a2 b2 fun k => ⟨fun m => ?_, fun m => ?_⟩
    · rcases List.mem_cons.mp ((h k).mp (List.mem_cons_of_mem _ m)) with z | z
      · have := a1 k m
        omega
      · exact z
    · rcases List.mem_cons.mp ((h k).mpr (List.mem_cons_of_mem _ m)) with z | z
      · have := b1 k m
        omega
      · exact z
theorem ordI_of {xs ms : List Int} (h : ms.Pairwise (· < ·)) (m : ∀ k, k ∈ ms ↔ k ∈ xs) : ms = ordI xs := srt_eq h srt_ordI fun k => (m k).trans mem_ordI.symm
theorem ordI_srt {ms : List Int} (h : ms.Pairwise (· < ·)) : ordI ms = ms := (ordI_of h fun _ => Iff.rfl).symm
theorem len_insI {x : Int} : ∀ {ys : List Int}, (insI x ys).length ≤ ys.length + 1
  | [] => by simp [insI]
  | y :: ys => by
    unfold insI
    split
    · simp
    · split
      · simp
      · have := len_insI (x := x) (ys := ys)
        simp only [List.length_cons]
        omega
theorem len_ordI : ∀ {xs : List Int}, (ordI xs).length ≤ xs.length
  | [] => by simp [ordI]
  | x :: xs => by
    have := len_ordI (xs := xs)
    have := len_insI (x := x) (ys := ordI xs)
    simp only [ordI, List.length_cons]
    omega
def belowB (d : PyData) (n : Int) : Bool := match d with
  | .int i => decide (0 ≤ i) && decide (i < n)
  | _ => false
def seqB : PyData → Bool
  | .list _ => true
  | .tuple _ => true
  | _ => false
def numB : PyData → Bool
  | .int i => decide (0 ≤ i)
  | _ => false
abbrev Pm := List Int × List Int
def pmD (p : Pm) : PyData := .tuple [.tuple (p.1.map PyData.int), .tuple (p.2.map PyData.int)]
def okP (n : Int) : PyData → Bool
  | .int i => decide (0 ≤ i) && (decide (1 ≤ i) && decide (i ≤ n))
  | _ => false
def itemsD : PyData → Option (List PyData)
  | .list ds => some ds
  | .tuple ds => some ds
  | _ => none
def intD : PyData → Option Int
  | .int i => some i
  | _ => none
def sideD (n : Int) (d : PyData) : Option (List Int) := match itemsD d with
  | some ds => if ds.all (okP n) = true then some (ds.filterMap intD) else none
  | none => none
def premD (n : Int) (d : PyData) : Option Pm := match itemsD d with
  | some [a, b] => (match sideD n a, sideD n b with
    | some l, some r => some (ordI l, ordI r)
    | _, _ => none)
  | _ => none
def fewD (d : PyData) : Prop := ∀ ds, itemsD d = some ds → ∀ s ∈ ds, ∀ es, itemsD s = some es → es.length < 64
theorem seqB_items {d : PyData} : seqB d = (itemsD d).isSome := by cases d <;> rfl
theorem ok_ints {n : Int} : ∀ {ds : List PyData}, ds.all (okP n) = true → ds = (ds.filterMap intD).map PyData.int
  | [], _ => rfl
  | d :: ds, h => by
    rw [List.all_cons, Bool.and_eq_true] at h
    cases d with
    | int i =>
      show _ = PyData.int i :: _
      rw [← ok_ints h.2]
    | _ => cases h.1
theorem prem_items {n : Int} {d : PyData} {ds : List PyData} {p : Pm} (e : itemsD d = some ds) (h : premD n d = some p) : ∃ a b l r, ds = [a, b] ∧ sideD n a = some l ∧ sideD n b = some r ∧ p = (ordI l, ordI r) := by
  unfold premD at h
  rw [e] at h
  split at h
  · rename_i a b z
    cases z
    cases ha : sideD n a with
    | none =>
      rw [ha] at h
      cases h
    | some l =>
      cases hb : sideD n b with
      | none =>
        rw [ha, hb] at h
        cases h
      | some r =>
        rw [ha, hb] at h
        cases h
        exact ⟨a, b, l, r, rfl, ha, hb, rfl⟩
  · cases h
theorem prem_none {n : Int} {d : PyData} {ds : List PyData} (e : itemsD d = some ds) (h : ds.length ≠ 2) : premD n d = none := by
  cases q : premD n d with
  | none => rfl
  | some p =>
    obtain ⟨a, b, l, r, rfl, _⟩ := prem_items e q
    exact absurd rfl h
theorem prem_bad {n : Int} {d x : PyData} {ds : List PyData} (e : itemsD d = some ds) (hx : x ∈ ds) (h : sideD n x = none) : premD n d = none := by
  cases q : premD n d with
  | none => rfl
  | some p =>
    obtain ⟨a, b, l, r, rfl, h1, h2, _⟩ := prem_items e q
    simp only [List.mem_cons, List.not_mem_nil, or_false] at hx
    rcases hx with rfl | rfl
    · rw [h1] at h
      cases h
    · rw [h2] at h
      cases h
theorem prem_some {n : Int} {d a b : PyData} {l r : List Int} (e : itemsD d = some [a, b]) (h1 : sideD n a = some l) (h2 : sideD n b = some r) : premD n d = some (ordI l, ordI r) := by
  unfold premD
  rw [e]
  show (match sideD n a, sideD n b with | some l, some r => some (ordI l, ordI r) | _, _ => none) = _
  rw [h1, h2]
theorem dp_two {K : PySem.W.Frag} {H : Hp} : ∀ {vs : List V} {ds : List PyData}, DpAll K H vs ds → vs.length = 2 → ∃ x y u v, ds = [x, y] ∧ vs = [u, v] ∧ Dp K H u x ∧ Dp K H v y
  | _, _, .nil, e => by cases e
  | _, _, .cons h .nil, e => by cases e
  | _, _, .cons h (.cons k .nil), _ => ⟨_, _, _, _, rfl, rfl, h, k⟩
  | _, _, .cons _ (.cons _ (.cons _ _)), e => by simp at e
theorem out_step {α β : Type} {es : List α} {i : Nat} {d : α} {f : α → β} (h : es[i]? = some d) : (es.take (i + 1)).map f = (es.take i).map f ++ [f d] := by
  rw [List.take_succ, h, List.map_append]
  rfl
def bothB (p : Pm) : Bool := p.1.any fun x => decide (x ∈ p.2)
def withinB (p q : Pm) : Bool := p.1.all (fun x => decide (x ∈ q.1)) && p.2.all (fun x => decide (x ∈ q.2))
def can3 (p : Pm) : Prop := (p.1.Pairwise (· < ·) ∧ ∀ x ∈ p.1, 1 ≤ x ∧ x ≤ 3) ∧ p.2.Pairwise (· < ·) ∧ ∀ x ∈ p.2, 1 ≤ x ∧ x ≤ 3
def all8 : List (List Int) := [[], [1], [2], [3], [1, 2], [1, 3], [2, 3], [1, 2, 3]]
def all27 : List Pm := (all8.flatMap fun a => all8.map fun b => (a, b)).filter fun p => !bothB p
theorem len27 : all27.length = 27 := by decide +kernel
theorem in8 {xs : List Int} (h : xs.Pairwise (· < ·)) (b : ∀ x ∈ xs, 1 ≤ x ∧ x ≤ 3) : xs ∈ all8 := by
  have e : xs = ([1, 2, 3] : List Int).filter (fun x => decide (x ∈ xs)) := by
    refine srt_eq h (List.Pairwise.filter _ (by decide)) fun k => ?_
    simp only [List.mem_filter, decide_eq_true_eq]
    constructor
    · intro hk
      refine ⟨?_, hk⟩
      have := b k hk
      have h3 : k = 1 ∨ k = 2 ∨ k = 3 := by omega
      rcases h3 with rfl | rfl | rfl <;> simp
    · exact fun hk => hk.2
  rw [e]
  by_cases h1 : (1 : Int) ∈ xs <;> by_cases h2 : (2 : Int) ∈ xs <;> by_cases h3 : (3 : Int) ∈ xs <;> simp [List.filter, h1, h2, h3, all8]
theorem in27 {p : Pm} (h : can3 p) (nb : bothB p = false) : p ∈ all27 := by
  obtain ⟨a, b⟩ := p
  simp only [all27, List.mem_filter, List.mem_flatMap, List.mem_map, nb]
  exact ⟨⟨a, in8 h.1.1 h.1.2, b, in8 h.2.1 h.2.2, rfl⟩, rfl⟩
theorem nodup_le {α : Type} [DecidableEq α] : ∀ {xs ys : List α}, xs.Nodup → (∀ x ∈ xs, x ∈ ys) → xs.length ≤ ys.length
  | [], _, _, _ => Nat.zero_le _
  | x :: xs, ys, h, hs => by
    obtain ⟨h1, h2⟩ := List.nodup_cons.mp h
    have m := hs x (by simp)
    have r := nodup_le (xs := xs) (ys := ys.erase x) h2 fun y hy => by
      refine (List.mem_erase_of_ne ?_).mpr (hs y (by simp [hy]))
      rintro rfl
      exact h1 hy
    rw [List.length_erase_of_mem m] at r
    have := List.length_pos_of_mem m
    simp only [List.length_cons]
    omega
theorem pm_firm (p : Pm) : firm (pmD p) = true := by
  have go : ∀ ns : List Int, firmAll (ns.map PyData.int) = true := fun ns => firmAll_map (fun _ => rfl) ns
  show (firmAll (p.1.map PyData.int) && (firmAll (p.2.map PyData.int) && true)) = true
  rw [go, go]
  rfl
theorem pms_firm (m : List Pm) : firmAll (m.map pmD) = true := firmAll_map pm_firm m
def pmK (p : Pm) : NestedKey := .tup [.tup (p.1.map NestedKey.num), .tup (p.2.map NestedKey.num)]
theorem datas_num : ∀ ns : List Int, NestedKey.datas (ns.map NestedKey.num) = ns.map PyData.int
  | [] => rfl
  | n :: ns => by
    show NestedKey.data (.num n) :: NestedKey.datas (ns.map NestedKey.num) = _
    rw [datas_num ns]
    rfl
theorem depth_num : ∀ ns : List Int, NestedKey.depthAll (ns.map NestedKey.num) = 0
  | [] => rfl
  | n :: ns => by
    show max (NestedKey.depth (.num n)) (NestedKey.depthAll (ns.map NestedKey.num)) = 0
    rw [depth_num ns]
    rfl
theorem pmK_data (p : Pm) : (pmK p).data = pmD p := by
  show PyData.tuple [PyData.tuple (NestedKey.datas (p.1.map NestedKey.num)), PyData.tuple (NestedKey.datas (p.2.map NestedKey.num))] = _
  rw [datas_num, datas_num]
  rfl
theorem pmK_depth (p : Pm) : (pmK p).depth ≤ 8 := by
  show max (NestedKey.depthAll (p.1.map NestedKey.num) + 1) (max (NestedKey.depthAll (p.2.map NestedKey.num) + 1) 0) + 1 ≤ 8
  rw [depth_num, depth_num]
  decide
theorem num_inj {a b : List Int} (h : a.map NestedKey.num = b.map NestedKey.num) : a = b := by
  have := congrArg NestedKey.datas h
  rw [datas_num, datas_num] at this
  have go : ∀ xs ys : List Int, xs.map PyData.int = ys.map PyData.int → xs = ys := by
    intro xs
    induction xs with
    | nil =>
      intro ys e
      cases ys with
      | nil => rfl
      | cons y ys => cases e
    | cons x xs ih =>
      intro ys e
      cases ys with
      | nil => cases e
      | cons y ys =>
        rw [List.map_cons, List.map_cons] at e
        injection e with e1 e2
        injection e1 with e1
        rw [e1, ih ys e2]
  exact go a b this
theorem pmK_inj {p q : Pm} (h : pmK p = pmK q) : p = q := by
  unfold pmK at h
  injection h with h
  injection h with h1 h2
  injection h2 with h2 _
  injection h1 with h1
  injection h2 with h2
  exact Prod.ext (num_inj h1) (num_inj h2)
theorem lay_ints : ∀ ns : List Int, PyData.canLayAll0 (ns.map PyData.int) = true
  | [] => rfl
  | n :: ns => by
    show (PyData.canLay0 (.int n) && PyData.canLayAll0 (ns.map PyData.int)) = true
    rw [lay_ints ns]
    rfl
theorem dep_ints : ∀ ns : List Int, PyData.depthAll (ns.map PyData.int) = 0
  | [] => rfl
  | n :: ns => by
    show max (PyData.depth (.int n)) (PyData.depthAll (ns.map PyData.int)) = 0
    rw [dep_ints ns]
    rfl
theorem pm_lay (p : Pm) : (pmD p).canLay0 = true := by
  show (PyData.canLayAll0 (p.1.map PyData.int) && (PyData.canLayAll0 (p.2.map PyData.int) && true)) = true
  rw [lay_ints, lay_ints]
  rfl
theorem pm_dep (p : Pm) : (pmD p).depth = 2 := by
  show max (PyData.depthAll (p.1.map PyData.int) + 1) (max (PyData.depthAll (p.2.map PyData.int) + 1) 0) + 1 = 2
  rw [dep_ints, dep_ints]
  rfl
theorem pms_lay : ∀ m : List Pm, PyData.canLayAll0 (m.map pmD) = true
  | [] => rfl
  | p :: m => by
    show (PyData.canLay0 (pmD p) && PyData.canLayAll0 (m.map pmD)) = true
    rw [pm_lay, pms_lay m]
    rfl
theorem pms_dep : ∀ m : List Pm, PyData.depthAll (m.map pmD) ≤ 2
  | [] => Nat.zero_le _
  | p :: m => by
    show max (PyData.depth (pmD p)) (PyData.depthAll (m.map pmD)) ≤ 2
    rw [pm_dep]
    have := pms_dep m
    omega
theorem pm_shaped (p : Pm) : SeqAt.shaped (pmD p) = true := by
  unfold SeqAt.shaped
  rw [pm_lay, pm_dep]
  rfl
theorem pms_shaped (m : List Pm) : SeqAt.shaped (.list (m.map pmD)) = true := by
  unfold SeqAt.shaped
  have h1 : PyData.canLay0 (.list (m.map pmD)) = true := pms_lay m
  have h2 : PyData.depth (.list (m.map pmD)) ≤ 64 := by
    show PyData.depthAll (m.map pmD) + 1 ≤ 64
    have := pms_dep m
    omega
  rw [h1, decide_eq_true h2]
  rfl
theorem ints_eqv : ∀ ns ms : List Int, PyData.eqvAll (ns.map PyData.int) (ms.map PyData.int) = decide (ns = ms)
  | [], [] => rfl
  | [], m :: ms => rfl
  | n :: ns, [] => rfl
  | n :: ns, m :: ms => by
    show ((n == m) && PyData.eqvAll (ns.map PyData.int) (ms.map PyData.int)) = _
    rw [ints_eqv ns ms]
    by_cases h1 : n = m <;> by_cases h2 : ns = ms <;> simp [h1, h2]
theorem room65 {k : Nat} {A : Around} (h : Room k A) : A.units + 65 < cLine := by
  have := h.un
  omega
theorem eqv_pm (p q : Pm) : PyData.eqv (pmD p) (pmD q) = decide (p = q) := by
  show (PyData.eqvAll (p.1.map PyData.int) (q.1.map PyData.int) && (PyData.eqvAll (p.2.map PyData.int) (q.2.map PyData.int) && true)) = _
  rw [ints_eqv, ints_eqv]
  obtain ⟨a, b⟩ := p
  obtain ⟨c, d⟩ := q
  by_cases h1 : a = c <;> by_cases h2 : b = d <;> simp [h1, h2]
theorem any_pm (fs : List Pm) (p : Pm) : ((fs.map pmD).any fun z => PyData.eqv z (pmD p)) = decide (p ∈ fs) := by
  induction fs with
  | nil => rfl
  | cons q fs ih =>
    rw [List.map_cons, List.any_cons, ih, eqv_pm]
    by_cases h : q = p
    · subst h
      simp
    · simp [h, Ne.symm h]
theorem can_len {p : Pm} (h : can3 p) : p.1.length ≤ 3 ∧ p.2.length ≤ 3 := by
  have go : ∀ xs ∈ all8, xs.length ≤ 3 := by decide
  exact ⟨go _ (in8 h.1.1 h.1.2), go _ (in8 h.2.1 h.2.2)⟩
def rowsL : Nat → List (List Int)
  | 0 => [[]]
  | n + 1 => (rowsL n).flatMap fun r => [r ++ [0], r ++ [1]]
def rowD (r : List Int) : PyData := .tuple (r.map PyData.int)
theorem row_firm (r : List Int) : firm (rowD r) = true := by
  show firmAll (r.map PyData.int) = true
  exact firmAll_map (fun _ => rfl) r
theorem rows_firm (m : List (List Int)) : firmAll (m.map rowD) = true := firmAll_map row_firm m
theorem rowsL_len : ∀ n, (rowsL n).length = 2 ^ n
  | 0 => rfl
  | n + 1 => by
    have ih := rowsL_len n
    have go : ∀ l : List (List Int), (l.flatMap fun r => [r ++ [0], r ++ [1]]).length = 2 * l.length := by
      intro l
      induction l with
      | nil => rfl
      | cons r l ih =>
        rw [List.flatMap_cons, List.length_append, ih]
        simp only [List.length_cons, List.length_nil]
        omega
    show ((rowsL n).flatMap fun r => [r ++ [0], r ++ [1]]).length = _
    rw [go, ih]
    omega
theorem rowsL_row : ∀ n, ∀ r ∈ rowsL n, r.length = n ∧ ∀ x ∈ r, x = 0 ∨ x = 1
  | 0, r, h => by
    simp only [rowsL, List.mem_singleton] at h
    subst h
    exact ⟨rfl, fun x hx => nomatch hx⟩
  | n + 1, r, h => by
    obtain ⟨q, hq, hr⟩ := List.mem_flatMap.mp h
    obtain ⟨l, b⟩ := rowsL_row n q hq
    simp only [List.mem_cons, List.not_mem_nil, or_false] at hr
    rcases hr with rfl | rfl
    · refine ⟨by simp [l], fun x hx => ?_⟩
      rcases List.mem_append.mp hx with hx | hx
      · exact b x hx
      · simp only [List.mem_singleton] at hx
        exact .inl hx
    · refine ⟨by simp [l], fun x hx => ?_⟩
      rcases List.mem_append.mp hx with hx | hx
      · exact b x hx
      · simp only [List.mem_singleton] at hx
        exact .inr hx
/-- each way of truths is a row -/
theorem rowsL_all (v : Int → Bool) : ∀ n, ((List.range n).map fun i : Nat => if v ((i : Int) + 1) = true then (1 : Int) else 0) ∈ rowsL n
  | 0 => by simp [rowsL]
  | n + 1 => by
    refine List.mem_flatMap.mpr ⟨_, rowsL_all v n, ?_⟩
    rw [List.range_succ, List.map_append]
    by_cases h : v ((n : Int) + 1) = true
    · simp [h]
    · simp [h]
theorem alike_pm (p q : Pm) : PySem.W.alike (pmK p).data (pmK q).data = true := by
  rw [pmK_data, pmK_data]
  show PySem.W.alike (.tuple [.tuple (p.1.map PyData.int), .tuple (p.2.map PyData.int)]) (.tuple [.tuple (q.1.map PyData.int), .tuple (q.2.map PyData.int)]) = true
  simp [PySem.W.alike, PySem.W.alikeAll, PySem.W.alike_ints]
theorem ranked_pm (ps : List Pm) : Ranked pmK ps := ⟨fun _ _ _ _ h => pmK_inj h, fun _ _ => pmK_depth _, fun _ _ _ _ => alike_pm _ _, fun p _ => ⟨_, _, rfl⟩⟩
theorem pmK_fun : (fun b => (pmK b).data) = pmD := funext pmK_data
noncomputable def sortP (ps : List Pm) : List Pm := ordB (fun b => (pmK b).data) ps
theorem mem_sortP {ps : List Pm} {p : Pm} : p ∈ sortP ps ↔ p ∈ ps := (ranked_pm ps).mem
theorem len_sortP (ps : List Pm) : (sortP ps).length ≤ ps.length := ordB_len (ranked_pm ps)
theorem sortP_nodup (ps : List Pm) : (sortP ps).Nodup := (ordB_is (ranked_pm ps)).1.nodup
theorem sortP_congr {ps qs : List Pm} (h : ∀ p, p ∈ ps ↔ p ∈ qs) : sortP ps = sortP qs := ordB_congr h
theorem not_false (bs : List Bool) : (!(bs.any fun c => c == false)) = bs.all id := by
  induction bs with
  | nil => rfl
  | cons b bs ih =>
    rw [List.any_cons, List.all_cons, ← ih]
    cases b <;> rfl
def rv (r : List Int) (x : Int) : Int := r.getD (x - 1).toNat 0
def holdB (r : List Int) (p : Pm) : Bool := decide ((0 : Int) ∈ p.1.map (rv r)) || decide ((1 : Int) ∈ p.2.map (rv r))
theorem holdB_any (r : List Int) (p : Pm) : ((p.1.map fun x => decide (rv r x = 0)) ++ (p.2.map fun x => decide (rv r x = 1))).any id = holdB r p := by
  unfold holdB
  rw [List.any_append, List.any_map, List.any_map]
  congr 1
  · rw [Bool.eq_iff_iff, List.any_eq_true, decide_eq_true_eq, List.mem_map]
    exact ⟨fun ⟨x, a, b⟩ => ⟨x, a, of_decide_eq_true b⟩, fun ⟨x, a, b⟩ => ⟨x, a, decide_eq_true b⟩⟩
  · rw [Bool.eq_iff_iff, List.any_eq_true, decide_eq_true_eq, List.mem_map]
    exact ⟨fun ⟨x, a, b⟩ => ⟨x, a, of_decide_eq_true b⟩, fun ⟨x, a, b⟩ => ⟨x, a, decide_eq_true b⟩⟩
theorem prem_can {n : Int} (hn : n ≤ 3) {d : PyData} {p : Pm} (h : premD n d = some p) : can3 p := by
  have side : ∀ {x : PyData} {l : List Int}, sideD n x = some l → ∀ k ∈ ordI l, 1 ≤ k ∧ k ≤ 3 := by
    intro x l hl k hk
    rw [mem_ordI] at hk
    unfold sideD at hl
    cases e : itemsD x with
    | none =>
      rw [e] at hl
      cases hl
    | some es =>
      rw [e] at hl
      replace hl : (if es.all (okP n) = true then some (es.filterMap intD) else none) = some l := hl
      split at hl
      · rename_i z
        cases hl
        obtain ⟨y, hy, ey⟩ := List.mem_filterMap.mp hk
        have := List.all_eq_true.mp z y hy
        cases y with
        | int i =>
          cases ey
          simp only [okP, Bool.and_eq_true, decide_eq_true_eq] at this
          omega
        | _ => cases ey
      · cases hl
  cases e : itemsD d with
  | none =>
    unfold premD at h
    rw [e] at h
    cases h
  | some ds =>
    obtain ⟨a, b, l, r, rfl, h1, h2, rfl⟩ := prem_items e h
    exact ⟨⟨srt_ordI, side h1⟩, srt_ordI, side h2⟩
theorem rowD_at {r : List Int} {x : Int} (h1 : 1 ≤ x) (h2 : x ≤ r.length) : atI (r.map PyData.int) (x - 1) = some (.int (rv r x)) := by
  obtain ⟨n, rfl⟩ : ∃ n : Nat, x = n + 1 := ⟨(x - 1).toNat, by omega⟩
  have e : ((n : Int) + 1 - 1) = (n : Int) := by omega
  rw [e]
  have l : n < r.length := by omega
  refine atI_nat ?_
  unfold rv
  rw [e, List.getElem?_map, List.getElem?_eq_getElem l]
  simp [l]
def seqB2 (b : Bool) : PyData → Bool
  | .tuple _ => true
  | .list _ => b
  | _ => false
def leastL (ps : List Pm) : List Pm := ps.filter fun e => !ps.any fun o => decide (o ≠ e) && withinB o e
/-- the row, formed -/
def rowF (s : Int) (lists : Bool) (d : PyData) : PyData := match itemsD d with
  | some ds => if seqB2 lists d && ds.all (fun x => belowB x s) then .tuple ds else .none
  | none => .none
/-- .. of so many places -/
def rowP (s : Int) (lists : Bool) (d : PyData) (n : Int) : PyData := match rowF s lists d with
  | .tuple ds => if (ds.length : Int) = n then .tuple ds else .none
  | _ => .none
section
variable {K : PySem.W.Frag} {bx X0 : Addr → Prop} {H0 : Hp} {ρ : Rho} {Φ : Dat → Prop}
theorem firm_ints (ns : List Int) : firm (.tuple (ns.map PyData.int)) = true := firmAll_map (fun _ => rfl) ns
/-- tuple(sorted(set(xs))), xs of whole numbers -/
theorem w_lotI {wd : World} {te : TE} (h : W K bx X0 H0 te ρ fun x => ∃ (ns : List Int), seq? x = some (ns.map PyData.int) ∧ ns.length < 64 ∧ Φ (.d (.tuple ((ordI ns).map PyData.int)))) :
    W K bx X0 H0 (tCB (rTup K) (tCons (tCB (rSortedSet wd) (tCons (tCB (rSetI K wd) (tCons te tNil)) tNil)) tNil)) ρ Φ := fun X H σ e Q k =>
  h X H σ e _ fun v x H1 f d ⟨ns, e1, hn, q⟩ => by
    obtain ⟨a, vs, rfl, h1, h2⟩ := da_seq d e1
    have := dp_ints h2
    subst this
    refine ⟨a, ns, rfl, h1, by omega, fun p c hp hc => ⟨p, _, c, rfl, upd_same, by omega, fun ms l m1 m2 m3 hl => ⟨l, _, rfl, .inl ⟨SqL.of upd_same, fun t ht => ?_⟩⟩⟩⟩
    have s1 := same_new (o := SetO wd p (fun j => decide (j ∈ ns)) c) hp
    have s2 := same_new (o := .lst (ms.map V.int)) hl
    have s3 := same_new (o := .tup (ms.map V.int)) ht
    have fr := f.trans (.of (bx := bx) (same_tr s1 (same_tr s2 s3)))
    refine k _ _ _ fr (ok_d (x := .tuple _) (dp_grow (e.toEnX.go fr).grow _ _ (firm_ints _) ?_)) q
    rw [← ordI_of m1 (fun k => (m2 k).trans (by simp))]
    exact .tup (SqT.of upd_same) (ints_dp _)
end
def needGo (n : Int) : Nat → List PyData → Int ⊕ List Pm
  | _, [] => .inr []
  | i, d :: r => match premD n d with
    | none => .inl (i : Int)
    | some p => match needGo n (i + 1) r with
      | .inl k => .inl k
      | .inr ps => .inr (p :: ps)
/-- what need_premises does with data: the number of the first that is none, or the premises -/
def needD (n : Int) (d : PyData) : Int ⊕ List Pm := match itemsD d with
  | none => .inl (-1)
  | some ds => needGo n 0 ds
def fewAll (d : PyData) : Prop := ∀ ds, itemsD d = some ds → (∀ x ∈ ds, fewD x) ∧ ds.length ≤ 200
theorem needGo_can {n : Int} (hn : n ≤ 3) : ∀ (ds : List PyData) (i : Nat) (ps : List Pm), needGo n i ds = .inr ps → ∀ p ∈ ps, can3 p
  | [], _, ps, h => by
    cases h
    intro p hp
    cases hp
  | d :: r, i, ps, h => by
    unfold needGo at h
    cases e : premD n d with
    | none =>
      rw [e] at h
      cases h
    | some p =>
      rw [e] at h
      cases e2 : needGo n (i + 1) r with
      | inl k =>
        rw [e2] at h
        cases h
      | inr qs =>
        rw [e2] at h
        cases h
        intro q hq
        rcases List.mem_cons.mp hq with rfl | hq
        · exact prem_can hn e
        · exact needGo_can hn r (i + 1) qs e2 q hq
theorem needGo_len {n : Int} : ∀ (ds : List PyData) (i : Nat) (ps : List Pm), needGo n i ds = .inr ps → ps.length = ds.length
  | [], _, ps, h => by
    cases h
    rfl
  | d :: r, i, ps, h => by
    unfold needGo at h
    cases e : premD n d with
    | none =>
      rw [e] at h
      cases h
    | some p =>
      rw [e] at h
      cases e2 : needGo n (i + 1) r with
      | inl k =>
        rw [e2] at h
        cases h
      | inr qs =>
        rw [e2] at h
        cases h
        rw [List.length_cons, List.length_cons, needGo_len r (i + 1) qs e2]
/-- joined to what is formed so far -/
def withPs (acc : List Pm) : Int ⊕ List Pm → Int ⊕ List Pm
  | .inl k => .inl k
  | .inr ps => .inr (acc ++ ps)
end Say

set_option Elab.async false
set_option linter.all false
set_option pp.maxSteps 1500
set_option pp.deepTerms false
set_option maxRecDepth 100000
set_option maxHeartbeats 8000000
namespace K03
open PySem PySem.Spec PyProof.Rows L2 Say
section
variable {P : Program} {w : World} {K : PySem.W.Frag} {mg : Str → Option Value} {base : Heap}
def f_is_number : FnA PyData := fnF (fun d => [.d d]) (fun _ => True) (fun d => .d (.bool (numB d)))
def N_is_number : List Str := ["value"]
theorem sc_is_number : FnScope N_is_number ["value"] (defScope (top 16)) := ⟨rfl, rfl, rfl, by decide +kernel, rfl, by decide +kernel, by decide +kernel⟩
theorem fk_is_number (T : Tx K mg) {fd : FuncData} (F : FnP K "is_number" 16 [] (He.ga K "is_number") fd) : FnOk P w K mg base CX0 1 (He.ga K "is_number") fd ["value"] (spA K f_is_number) := by
  refine fnA_ok F sc_is_number (fun _ => rfl) (fun cdv A ou s H E hr => ⟨_, (PSs.nox (pss_one (ps_ret (pe_and (pe_isiK (T := "int") K rfl (pv 0) T.b_isinstance T.b_int (by decide +kernel)) (pe_and (pe_not (pe_isiK (T := "bool") K rfl (pv 0) T.b_isinstance T.b_bool (by decide +kernel))) (pe_one (pe_cmpR op_ge (pv 0) pe_int (nomark _)))))))), ?_⟩)
  rintro a bx X sb pre hE
  show WS K bx X H _ [some _] _ _ _ _
  refine ws_ret sb (w_andV (w_isi (by decide) (w_var rfl ⟨a, rfl, _, rfl, fun c => ?_, fun c => ?_⟩)))
  · refine w_andV (w_notV (w_isi (by decide) (w_var rfl ⟨a, rfl, _, rfl, _, rfl, fun c2 => ?_, fun c2 => ?_⟩)))
    · rw [isD_int] at c
      rw [isD_bool] at c2
      cases a <;> first | (cases c; done) | (cases c2; done) | exact w_ge (w_var rfl (w_int ⟨_, _, rfl, rfl, rfl, rfl⟩))
    · rw [isD_int] at c
      rw [isD_bool] at c2
      cases a <;> first | (cases c; done) | (cases c2; done) | exact ⟨rfl, rfl⟩
  · rw [isD_int] at c
    cases a <;> first | (cases c; done) | exact ⟨rfl, rfl⟩
theorem gk_is_number (T : Tx K mg) : Gd P w K mg base CX0 1 "is_number" ["value"] [] f_is_number := by
  obtain ⟨fd, F⟩ := T.F_is_number
  exact ⟨fd, [], fk_is_number T F, ⟨.nil, F.bindsN fun _ _ _ _ _ _ us hl => match us, hl with | [_], _ => rfl⟩, F.kp⟩
def f_is_number_below : FnA (PyData × Int) := fnF (fun a => [.d a.1, .d (.int a.2)]) (fun _ => True) (fun a => .d (.bool (belowB a.1 a.2)))
def N_is_number_below : List Str := ["value", "end"]
theorem sc_is_number_below : FnScope N_is_number_below ["value", "end"] (defScope (top 17)) := ⟨rfl, rfl, rfl, by decide +kernel, rfl, by decide +kernel, by decide +kernel⟩
theorem fk_is_number_below (T : Tx K mg) {fd : FuncData} (F : FnP K "is_number_below" 17 [] (He.ga K "is_number_below") fd) : FnOk P w K mg base CX0 2 (He.ga K "is_number_below") fd ["value", "end"] (spA K f_is_number_below) := by
  refine fnA_ok F sc_is_number_below (fun _ => rfl) (fun cdv A ou s H E hr => ⟨_, (PSs.nox (pss_one (ps_ret (pe_and (pe_gd (gk_is_number T) (hr.mono (by decide)) rfl T.g_is_number pass0 (pa_cons (pv 0) pa_nil)) (pe_one (pe_cmpR op_lt (pv 0) (pv 1) (nomark _))))))), ?_⟩)
  rintro a bx X sb pre hE
  show WS K bx X H _ [some _, some _] _ _ _ _
  obtain ⟨d, n⟩ := a
  refine ws_ret sb (w_andV (w_callF (wa_cons (w_var rfl (wa_nil ⟨d, rfl, rfl, trivial, _, rfl, fun c => ?_, fun c => ?_⟩)))))
  · cases d with
    | int i =>
      refine w_lt (w_var rfl (w_var rfl ⟨i, n, rfl, rfl, rfl, ?_⟩))
      show Dat.d (.bool (decide (i < n))) = Dat.d (.bool (decide (0 ≤ i) && decide (i < n)))
      have c' : decide (0 ≤ i) = true := c
      rw [c']
      rfl
    | _ => cases c
  · refine ⟨rfl, ?_⟩
    cases d with
    | int i =>
      show Dat.d (.bool false) = Dat.d (.bool (decide (0 ≤ i) && decide (i < n)))
      have c' : decide (0 ≤ i) = false := c
      rw [c']
      rfl
    | _ => rfl
theorem gk_is_number_below (T : Tx K mg) : Gd P w K mg base CX0 2 "is_number_below" ["value", "end"] [] f_is_number_below := by
  obtain ⟨fd, F⟩ := T.F_is_number_below
  exact ⟨fd, [], fk_is_number_below T F, ⟨.nil, F.bindsN fun _ _ _ _ _ _ us hl => match us, hl with | [_, _], _ => rfl⟩, F.kp⟩
def f_is_sequence : FnA (PyData × Bool) := fnF (fun a => [.d a.1, .d (.bool a.2)]) (fun _ => True) (fun a => .d (.bool (seqB2 a.2 a.1)))
def N_is_sequence : List Str := ["value", "lists"]
theorem sc_is_sequence : FnScope N_is_sequence ["value", "lists"] (defScope (top 18)) := ⟨rfl, rfl, rfl, by decide +kernel, rfl, by decide +kernel, by decide +kernel⟩
theorem fk_is_sequence (T : Tx K mg) {fd : FuncData} (F : FnP K "is_sequence" 18 [.bl true] (He.ga K "is_sequence") fd) : FnOk P w K mg base CX0 1 (He.ga K "is_sequence") fd ["value", "lists"] (spA K f_is_sequence) := by
  refine fnA_ok F sc_is_sequence (fun _ => rfl) (fun cdv A ou s H E hr => ⟨_, (PSs.nox (pss_one (ps_ret (pe_or (pe_isiK (T := "tuple") K rfl (pv 0) T.b_isinstance T.b_tuple (by decide +kernel)) (pe_one (pe_and (pv 1) (pe_one (pe_isiK (T := "list") K rfl (pv 0) T.b_isinstance T.b_list (by decide +kernel))))))))), ?_⟩)
  rintro a bx X sb pre hE
  show WS K bx X H _ [some _, some _] _ _ _ _
  obtain ⟨d, b⟩ := a
  refine ws_ret sb (w_orV (w_isi (by decide) (w_var rfl ⟨d, rfl, _, rfl, fun c => ⟨rfl, ?_⟩, fun c => w_andV (w_var rfl ⟨b, rfl, fun c2 => w_isi (by decide) (w_var rfl ⟨d, rfl, rfl, ?_⟩), fun c2 => ⟨rfl, ?_⟩⟩)⟩)))
  · rw [isD_tuple] at c
    cases d <;> first | (cases c; done) | rfl
  · subst c2
    rw [isD_tuple] at c
    cases d <;> first | (cases c; done) | (rw [isD_list]; rfl)
  · subst c2
    rw [isD_tuple] at c
    cases d <;> first | (cases c; done) | rfl
theorem gk_is_sequence (T : Tx K mg) : Gd P w K mg base CX0 1 "is_sequence" ["value", "lists"] [.bl true] f_is_sequence := by
  obtain ⟨fd, F⟩ := T.F_is_sequence
  obtain ⟨ds, v1, b1⟩ := F.binds1 (ps := ["value", "lists"]) 1 0 (by decide) rfl fun T kV doc pm an cdv ct us its h1 h2 => match us, its, h1, h2 with | [_], [_], _, _ => ⟨_, rfl, rfl⟩
  exact ⟨fd, ds, fk_is_sequence T F, ⟨v1, b1⟩, F.kp⟩
theorem gk_is_sequence_1 (T : Tx K mg) : Gd P w K mg base CX0 1 "is_sequence" ["value", "lists"] [] f_is_sequence := by
  obtain ⟨fd, F⟩ := T.F_is_sequence
  obtain ⟨ds, v1, b1⟩ := F.binds1 (ps := ["value", "lists"]) 2 1 (by decide) rfl fun T kV doc pm an cdv ct us its h1 h2 => match us, its, h1, h2 with | [_, _], [_], _, _ => ⟨_, rfl, rfl⟩
  exact ⟨fd, ds, fk_is_sequence T F, ⟨v1, b1⟩, F.kp⟩
/-- rows of two signs -/
def f_rows_of : FnA (Nat × Nat) := fnF (fun a => [.d (.int (a.1 : Nat)), .d (.int (a.2 : Nat))]) (fun a => a.1 ≤ 3 ∧ a.2 = 2) (fun a => .d (.tuple ((rowsL a.1).map rowD)))
def N_rows_of : List Str := ["places", "signs", "rows", "_", "row", "sign"]
theorem sc_rows_of : FnScope N_rows_of ["places", "signs"] (defScope (top 22)) := ⟨rfl, rfl, rfl, by decide +kernel, rfl, by decide +kernel, by decide +kernel⟩
theorem fk_rows_of (T : Tx K mg) {fd : FuncData} (F : FnP K "rows_of" 22 [.int (2)] (He.ga K "rows_of") fd) : FnOk P w K mg base CX0 1 (He.ga K "rows_of") fd ["places", "signs"] (spA K f_rows_of) := by
  refine fnA_ok F sc_rows_of (fun _ => rfl) (fun cdv A ou s H E hr => ⟨_, (PSs.nox (pss_cons (ps_set (i := 2) sc_rows_of.nd rfl (Or.inl rfl) (pe_lst (pa_cons (pe_tup pa_nil) pa_nil)))
      (pss_cons (ps_for PassesOwn.never rfl (pi_range1 (by rfl) T.b_range (pa_cons (pv 0) pa_nil)) (pg_name (i := 3) sc_rows_of.nd rfl (Or.inl rfl))
      (pss_one (ps_setLc2 (i := 2) (own := [("row", 4), ("sign", 5)]) (vs1 := [5]) (g := gName 4) (g1 := gName 5) (tt := tYes) (tt1 := tYes) rfl sc_rows_of.nd rfl rfl (sw_true rfl rfl rfl (by decide +kernel)) (pi_sq (pv 2)) (blkOk_by (N := N_rows_of) (sc := defScope (top 22)) (by decide +kernel)) (by decide) (fun _ _ _ _ _ => (pg_name (i := 4) sc_rows_of.nd rfl (by first | exact Or.inl rfl | exact Or.inr rfl))) (fun _ _ _ _ _ => pts_nil) (fun _ _ _ _ _ => (pi_range1 (by rfl) T.b_range (pa_cons (pv 1) pa_nil))) (fun _ _ _ _ _ => (pg_name (i := 5) sc_rows_of.nd rfl (by first | exact Or.inl rfl | exact Or.inr rfl))) (fun _ _ _ _ _ => pts_nil) (fun _ _ _ _ _ => (pe_op (cataK K rfl) (pv 4) (pe_tup (pa_cons (pv 5) pa_nil)))))))
      (pss_one (ps_ret (pe_callTy (show CallR _ _ (rTup K) from call_tuple_of) (by rfl) T.b_tuple (by decide +kernel) (pa_cons (pv 2) pa_nil))))))), ?_⟩)
  rintro a bx X sb pre hE
  show WS K bx X H _ [some _, some _, none, none, none, none] _ _ _ _
  obtain ⟨n, m⟩ := a
  obtain ⟨n3, rfl⟩ := pre
  replace n3 : n ≤ 3 := n3
  have lens : ∀ i ≤ 3, (rowsL i).length ≤ 8 := fun i hi => by
    rw [rowsL_len]
    exact pow2_8 hi
  refine ws_seq (ws_asg (w_of_wf (wf_lst (wa_cons (w_tup (wa_nil ⟨[], rfl, by decide, wa_nil ⟨[.tuple []], rfl, by decide, rfl, ?_⟩⟩))))))
  refine ws_seq (ws_for [3] (wi_r1 (wa_cons (w_var rfl (wa_nil ⟨(n : Nat), rfl, by omega, by omega, fun i ρ' => ∃ x, ρ' = [some (.d (.int (n : Nat))), some (.d (.int 2)), some (.ls ((rowsL i).map rowD)), x, none, none], ⟨_, rfl⟩, ?_, ?_⟩)))))
  · rintro i d ρ' hd ⟨x, rfl⟩
    have hi : i < n := by
      have := (List.getElem?_eq_some_iff.mp hd).1
      simpa using this
    refine wg_name (by decide) (ws_asg (w_of_wf (wf_map2 (wi_sq (w_var rfl ⟨_, _, rfl, rfl, List Int, Nat, rowsL i, rowD, fun _ => [0, 1], fun s => .int (s : Nat), fun r s => rowD (r ++ [(s : Int)]), rfl, fun r hr2 => wg_name (by decide) (wi_r1 (wa_cons (w_var rfl (wa_nil ⟨2, rfl, by decide, by decide, rfl, fun s hs => wg_name (by decide) (w_catT (w_var rfl (w_tup (wa_cons (w_var rfl (wa_nil ⟨[.int (s : Nat)], rfl, lek rfl, _, _, rfl, rfl, ?_, ?_⟩))))))⟩)))), ?_, rfl, ?_⟩)))))
    · rw [List.length_map, (rowsL_row i r hr2).1]
      show i + 1 ≤ 100000
      omega
    · show some (PyData.tuple (r.map PyData.int ++ [.int (s : Nat)])) = some (PyData.tuple ((r ++ [(s : Int)]).map PyData.int))
      rw [List.map_append]
      rfl
    · have := lens (i + 1) (by omega)
      have e : ((rowsL i).flatMap fun a => ([0, 1] : List Nat).map fun s : Nat => rowD (a ++ [(s : Int)])) = (rowsL (i + 1)).map rowD := by
        show _ = ((rowsL i).flatMap fun r => [r ++ [0], r ++ [1]]).map rowD
        rw [List.map_flatMap]
        rfl
      rw [e, List.length_map]
      omega
    · have e : ((rowsL i).flatMap fun a => ([0, 1] : List Nat).map fun s : Nat => rowD (a ++ [(s : Int)])) = (rowsL (i + 1)).map rowD := by
        show _ = ((rowsL i).flatMap fun r => [r ++ [0], r ++ [1]]).map rowD
        rw [List.map_flatMap]
        rfl
      rw [e]
      exact ⟨_, rfl⟩
  · rintro ρ' ⟨x, rfl⟩
    rw [List.length_map, List.length_range]
    exact ws_ret sb (w_tuple (wa_cons (w_var rfl (wa_nil ⟨_, _, rfl, rfl, rfl, rfl⟩))))
theorem gk_rows_of (T : Tx K mg) : Gd P w K mg base CX0 1 "rows_of" ["places", "signs"] [.int (2)] f_rows_of := by
  obtain ⟨fd, F⟩ := T.F_rows_of
  obtain ⟨ds, v1, b1⟩ := F.binds1 (ps := ["places", "signs"]) 1 0 (by decide) rfl fun T kV doc pm an cdv ct us its h1 h2 => match us, its, h1, h2 with | [_], [_], _, _ => ⟨_, rfl, rfl⟩
  exact ⟨fd, ds, fk_rows_of T F, ⟨v1, b1⟩, F.kp⟩
theorem gk_rows_of_1 (T : Tx K mg) : Gd P w K mg base CX0 1 "rows_of" ["places", "signs"] [] f_rows_of := by
  obtain ⟨fd, F⟩ := T.F_rows_of
  obtain ⟨ds, v1, b1⟩ := F.binds1 (ps := ["places", "signs"]) 2 1 (by decide) rfl fun T kV doc pm an cdv ct us its h1 h2 => match us, its, h1, h2 with | [_, _], [_], _, _ => ⟨_, rfl, rfl⟩
  exact ⟨fd, ds, fk_rows_of T F, ⟨v1, b1⟩, F.kp⟩
def f_holds_in : FnA (Pm × List Int) := fnF (fun a => [.d (pmD a.1), .d (rowD a.2)]) (fun a => (∀ x ∈ a.1.1 ++ a.1.2, 1 ≤ x ∧ x ≤ a.2.length) ∧ a.1.1.length ≤ 100 ∧ a.1.2.length ≤ 100) (fun a => .d (.bool (holdB a.2 a.1)))
def N_holds_in : List Str := ["premise", "row", "left", "right", "place"]
theorem sc_holds_in : FnScope N_holds_in ["premise", "row"] (defScope (top 29)) := ⟨rfl, rfl, rfl, by decide +kernel, rfl, by decide +kernel, by decide +kernel⟩
theorem fk_holds_in (T : Tx K mg) {fd : FuncData} (F : FnP K "holds_in" 29 [] (He.ga K "holds_in") fd) : FnOk P w K mg base CX0 1 (He.ga K "holds_in") fd ["premise", "row"] (spA K f_holds_in) := by
  refine fnA_ok F sc_holds_in (fun _ => rfl) (fun cdv A ou s H E hr => ⟨_, (PSs.nox (pss_cons (ps_asg (pv 0) (pg_tup (by rfl) (pgs_cons (pg_name (i := 2) sc_holds_in.nd rfl (Or.inl rfl)) (pgs_cons (pg_name (i := 3) sc_holds_in.nd rfl (Or.inl rfl)) pgs_nil))))
      (pss_one (ps_ret (pe_callB (show CallR _ _ (rAny K) from cr_any (by rfl)) (by rfl) T.b_any (by decide +kernel) (pa_cons (pe_op op_cat (pe_lc (own := [("place", 4)]) (g := gName 4) (tt := tYes) rfl sc_holds_in.nd (pi_sq (pv 2)) (blkOk_by (N := N_holds_in) (sc := defScope (top 29)) (by decide +kernel)) (fun _ _ _ _ _ => (pg_name (i := 4) sc_holds_in.nd rfl (by first | exact Or.inl rfl | exact Or.inr rfl))) (fun _ _ _ _ _ => pts_nil) (fun _ _ _ _ _ => (pe_cmpR op_eq (pe_ix (ixK K rfl) (pv 1) (pe_op op_sub (pv 4) pe_int) (fun _ _ => rfl)) pe_int (nomark _)))) (pe_lc (own := [("place", 4)]) (g := gName 4) (tt := tYes) rfl sc_holds_in.nd (pi_sq (pv 3)) (blkOk_by (N := N_holds_in) (sc := defScope (top 29)) (by decide +kernel)) (fun _ _ _ _ _ => (pg_name (i := 4) sc_holds_in.nd rfl (by first | exact Or.inl rfl | exact Or.inr rfl))) (fun _ _ _ _ _ => pts_nil) (fun _ _ _ _ _ => (pe_cmpR op_eq (pe_ix (ixK K rfl) (pv 1) (pe_op op_sub (pv 4) pe_int) (fun _ _ => rfl)) pe_int (nomark _))))) pa_nil)))))), ?_⟩)
  rintro a bx X sb pre hE
  show WS K bx X H _ [some _, some _, none, none, none] _ _ _ _
  obtain ⟨⟨l, r⟩, row⟩ := a
  obtain ⟨hb, l1, l2⟩ := pre
  replace hb : ∀ x ∈ l ++ r, 1 ≤ x ∧ x ≤ row.length := hb
  replace l1 : l.length ≤ 100 := l1
  replace l2 : r.length ≤ 100 := l2
  refine ws_seq (ws_asgT [2, 3] (w_var rfl ⟨_, rfl, wg_tup rfl rfl (wgs_cons (wg_name (by decide) (wgs_cons (wg_name (by decide) (wgs_nil ?_)))))⟩))
  refine ws_ret sb (w_any (wa_cons (w_of_wf (wf_cat (w_of_wf (wf_map (wi_sq (w_var rfl ⟨_, _, rfl, rfl, few l1, Int, l, PyData.int, fun x => .bool (decide (rv row x = 0)), rfl, fun x hx => wg_name (by decide) ?_, ?_⟩))))))))
  · have hx' := hb x (List.mem_append_left _ hx)
    exact w_eqI (w_ix (w_var rfl (w_sub (w_var rfl (w_int ⟨x, 1, rfl, rfl, _, _, _, rfl, rfl, rowD_at hx'.1 hx'.2, w_int ⟨_, _, rfl, rfl, rfl⟩⟩)))))
  · refine w_of_wf (wf_map (wi_sq (w_var rfl ⟨_, _, rfl, rfl, few l2, Int, r, PyData.int, fun x => .bool (decide (rv row x = 1)), rfl, fun x hx => wg_name (by decide) ?_, ?_⟩)))
    · have hx' := hb x (List.mem_append_right _ hx)
      exact w_eqI (w_ix (w_var rfl (w_sub (w_var rfl (w_int ⟨x, 1, rfl, rfl, _, _, _, rfl, rfl, rowD_at hx'.1 hx'.2, w_int ⟨_, _, rfl, rfl, rfl⟩⟩)))))
    · refine ⟨_, _, rfl, rfl, by simp only [List.length_map]; omega, wa_nil ⟨(l.map fun x => decide (rv row x = 0)) ++ r.map fun x => decide (rv row x = 1), ?_, rfl, ?_⟩⟩
      · simp [List.map_append, Function.comp_def]
      · show Dat.d _ = Dat.d _
        rw [holdB_any row (l, r)]
theorem gk_holds_in (T : Tx K mg) : Gd P w K mg base CX0 1 "holds_in" ["premise", "row"] [] f_holds_in := by
  obtain ⟨fd, F⟩ := T.F_holds_in
  exact ⟨fd, [], fk_holds_in T F, ⟨.nil, F.bindsN fun _ _ _ _ _ _ us hl => match us, hl with | [_, _], _ => rfl⟩, F.kp⟩
def f_all_hold : FnA (List Pm × List Int × Bool) := fnF (fun a => [.d (if a.2.2 then .list (a.1.map pmD) else .tuple (a.1.map pmD)), .d (rowD a.2.1)]) (fun a => (∀ p ∈ a.1, (∀ x ∈ p.1 ++ p.2, 1 ≤ x ∧ x ≤ a.2.1.length) ∧ p.1.length ≤ 100 ∧ p.2.length ≤ 100) ∧ a.1.length ≤ 200) (fun a => .d (.bool (a.1.all (holdB a.2.1))))
def N_all_hold : List Str := ["premises", "row", "premise"]
theorem sc_all_hold : FnScope N_all_hold ["premises", "row"] (defScope (top 30)) := ⟨rfl, rfl, rfl, by decide +kernel, rfl, by decide +kernel, by decide +kernel⟩
theorem fk_all_hold (T : Tx K mg) {fd : FuncData} (F : FnP K "all_hold" 30 [] (He.ga K "all_hold") fd) : FnOk P w K mg base CX0 2 (He.ga K "all_hold") fd ["premises", "row"] (spA K f_all_hold) := by
  refine fnA_ok F sc_all_hold (fun _ => rfl) (fun cdv A ou s H E hr => ⟨_, (PSs.nox (pss_one (ps_ret (pe_callB (show CallR _ _ (rAll K) from cr_all (by rfl)) (by rfl) T.b_all (by decide +kernel) (pa_cons (pe_lc (own := [("premise", 2)]) (g := gName 2) (tt := tYes) rfl sc_all_hold.nd (pi_sq (pv 0)) (blkOk_by (N := N_all_hold) (sc := defScope (top 30)) (by decide +kernel)) (fun _ _ _ _ _ => (pg_name (i := 2) sc_all_hold.nd rfl (by first | exact Or.inl rfl | exact Or.inr rfl))) (fun _ _ _ _ _ => pts_nil) (fun _ _ _ _ _ => (pe_gd (gk_holds_in T) (hr.mono (by decide)) rfl T.g_holds_in pass0 (pa_cons (pv 2) (pa_cons (pv 1) pa_nil))))) pa_nil))))), ?_⟩)
  rintro a bx X sb pre hE
  show WS K bx X H _ [some _, some _, none] _ _ _ _
  obtain ⟨ps, row, b⟩ := a
  obtain ⟨hp, few1⟩ := pre
  replace few1 : ps.length ≤ 200 := few1
  refine ws_ret sb (w_all (wa_cons (w_of_wf (wf_map (wi_sq (w_var rfl ⟨_, ps.map pmD, rfl, (by cases b <;> rfl), few few1, Pm, ps, pmD, fun p => .bool (holdB row p), rfl, fun p hm => wg_name (by decide) (w_callF (wa_cons (w_var rfl (wa_cons (w_var rfl (wa_nil ⟨(p, row), rfl, rfl, hp p hm, rfl⟩)))))), wa_nil ⟨ps.map (holdB row), ?_, rfl, ?_⟩⟩))))))
  · rw [List.map_map]
    rfl
  · show Dat.d _ = Dat.d _
    rw [List.all_map]
    rfl
theorem gk_all_hold (T : Tx K mg) : Gd P w K mg base CX0 2 "all_hold" ["premises", "row"] [] f_all_hold := by
  obtain ⟨fd, F⟩ := T.F_all_hold
  exact ⟨fd, [], fk_all_hold T F, ⟨.nil, F.bindsN fun _ _ _ _ _ _ us hl => match us, hl with | [_, _], _ => rfl⟩, F.kp⟩
def f_waking_rows : FnA (List Pm × Nat × Bool) := fnF (fun a => [.d (if a.2.2 then .list (a.1.map pmD) else .tuple (a.1.map pmD)), .d (.int (a.2.1 : Nat))]) (fun a => (∀ p ∈ a.1, (∀ x ∈ p.1 ++ p.2, 1 ≤ x ∧ x ≤ a.2.1) ∧ p.1.length ≤ 100 ∧ p.2.length ≤ 100) ∧ a.1.length ≤ 200 ∧ a.2.1 ≤ 3) (fun a => .d (.tuple (((rowsL a.2.1).filter fun r => a.1.all (holdB r)).map rowD)))
def N_waking_rows : List Str := ["premises", "places", "row"]
theorem sc_waking_rows : FnScope N_waking_rows ["premises", "places"] (defScope (top 31)) := ⟨rfl, rfl, rfl, by decide +kernel, rfl, by decide +kernel, by decide +kernel⟩
theorem fk_waking_rows (T : Tx K mg) {fd : FuncData} (F : FnP K "waking_rows" 31 [] (He.ga K "waking_rows") fd) : FnOk P w K mg base CX0 3 (He.ga K "waking_rows") fd ["premises", "places"] (spA K f_waking_rows) := by
  refine fnA_ok F sc_waking_rows (fun _ => rfl) (fun cdv A ou s H E hr => ⟨_, (PSs.nox (pss_one (ps_ret (pe_callTy (show CallR _ _ (rTup K) from call_tuple_of) (by rfl) T.b_tuple (by decide +kernel) (pa_cons (pe_lc (own := [("row", 2)]) (g := gName 2) rfl sc_waking_rows.nd (pi_sq (pe_gd (gk_rows_of T) (hr.mono (by decide)) rfl T.g_rows_of pass0 (pa_cons (pv 1) pa_nil))) (blkOk_by (N := N_waking_rows) (sc := defScope (top 31)) (by decide +kernel)) (fun _ _ _ _ _ => (pg_name (i := 2) sc_waking_rows.nd rfl (by first | exact Or.inl rfl | exact Or.inr rfl))) (fun _ _ _ _ _ => (pts_one (pt_val (pe_gd (gk_all_hold T) (hr.mono (by decide)) rfl T.g_all_hold pass0 (pa_cons (pv 0) (pa_cons (pv 2) pa_nil)))))) (fun _ _ _ _ _ => (pv 2))) pa_nil))))), ?_⟩)
  rintro a bx X sb pre hE
  show WS K bx X H _ [some _, some _, none] _ _ _ _
  obtain ⟨ps, n, b⟩ := a
  obtain ⟨hp, few1, n3⟩ := pre
  replace n3 : n ≤ 3 := n3
  have fr : (rowsL n).length ≤ 8 := by
    rw [rowsL_len]
    exact pow2_8 n3
  refine ws_ret sb (w_tuple (wa_cons (w_of_wf (wf_lc (wi_sq (w_callF (wa_cons (w_var rfl (wa_nil ⟨(n, 2), rfl, rfl, ⟨n3, rfl⟩, ?_⟩)))))))))
  refine ⟨_, (rowsL n).map rowD, rfl, rfl, few fr, List Int, rowsL n, rowD, fun r => ps.all (holdB r), rowD, rfl, fun r hr2 => wg_name (by decide) (wt_b (w_callF (wa_cons (w_var rfl (wa_cons (w_var rfl (wa_nil ⟨(ps, r, b), rfl, rfl, ⟨fun p hm => ?_, few1⟩, _, rfl, rfl, fun _ => w_var rfl rfl⟩))))))), wa_nil ⟨_, _, rfl, rfl, rfl, rfl⟩⟩
  obtain ⟨h1, h2⟩ := hp p hm
  exact ⟨fun x hx => by rw [(rowsL_row n r hr2).1]; exact h1 x hx, h2⟩
theorem gk_waking_rows (T : Tx K mg) : Gd P w K mg base CX0 3 "waking_rows" ["premises", "places"] [] f_waking_rows := by
  obtain ⟨fd, F⟩ := T.F_waking_rows
  exact ⟨fd, [], fk_waking_rows T F, ⟨.nil, F.bindsN fun _ _ _ _ _ _ us hl => match us, hl with | [_, _], _ => rfl⟩, F.kp⟩
end
end K03

set_option Elab.async false
set_option linter.all false
set_option pp.maxSteps 1500
set_option pp.deepTerms false
set_option maxRecDepth 100000
set_option maxHeartbeats 8000000
namespace K03
open PySem PySem.Spec PyProof.Rows L2 Say
section
variable {P : Program} {w : World} {K : PySem.W.Frag} {mg : Str → Option Value} {base : Heap}
def N_lot_of : List Str := ["values"]
theorem sc_lot_of : FnScope N_lot_of ["values"] (defScope (top 21)) := ⟨rfl, rfl, rfl, by decide +kernel, rfl, by decide +kernel, by decide +kernel⟩
def f_lot_int : FnA (PyData × List Int) := fnF (fun a => [.d a.1]) (fun a => seq? (.d a.1) = some (a.2.map PyData.int) ∧ a.2.length < 64) (fun a => .d (.tuple ((ordI a.2).map PyData.int)))
theorem fk_lot_ofI (T : Tx K mg) {fd : FuncData} (F : FnP K "lot_of" 21 [] (He.ga K "lot_of") fd) : FnOk P w K mg base CX0 1 (He.ga K "lot_of") fd ["values"] (spA K f_lot_int) := by
  refine fnA_ok F sc_lot_of (fun _ => rfl) (fun cdv A ou s H E hr => ⟨_, (PSs.nox (pss_one (ps_ret (pe_callTy (show CallR _ _ (rTup K) from call_tuple_of) (by rfl) T.b_tuple (by decide +kernel) (pa_cons (pe_callB (cr_sortedSet (by rfl)) (by rfl) T.b_sorted (by decide +kernel) (pa_cons (pe_callTy (cr_setI (by rfl)) (by rfl) T.b_set (by decide +kernel) (pa_cons (pv 0) pa_nil)) pa_nil)) pa_nil))))), ?_⟩)
  rintro a bx X sb pre hE
  show WS K bx X H _ [some _] _ _ _ _
  exact ws_ret sb (w_lotI (w_var rfl ⟨_, pre.1, pre.2, rfl, rfl⟩))
theorem gk_lot_ofI (T : Tx K mg) : Gd P w K mg base CX0 1 "lot_of" ["values"] [] f_lot_int := by
  obtain ⟨fd, F⟩ := T.F_lot_of
  exact ⟨fd, [], fk_lot_ofI T F, ⟨.nil, F.bindsN fun _ _ _ _ _ _ us hl => match us, hl with | [_], _ => rfl⟩, F.kp⟩
noncomputable def f_lot_pm : FnA (PyData × List Pm) := fnF (fun a => [.d a.1]) (fun a => seq? (.d a.1) = some (a.2.map pmD) ∧ a.2.length < 64) (fun a => .d (.tuple ((sortP a.2).map pmD)))
theorem fk_lot_ofP (T : Tx K mg) {fd : FuncData} (F : FnP K "lot_of" 21 [] (He.ga K "lot_of") fd) : FnOk P w K mg base CX0 1 (He.ga K "lot_of") fd ["values"] (spA K f_lot_pm) := by
  refine fnA_ok F sc_lot_of (fun _ => rfl) (fun cdv A ou s H E hr => have hun := room65 hr; ⟨_, (PSs.nox (pss_one (ps_ret (pe_callTy (show CallR _ _ (rTup K) from call_tuple_of) (by rfl) T.b_tuple (by decide +kernel) (pa_cons (pe_callB (cr_sortedN (by rfl) (Nat.lt_of_succ_lt hun)) (by rfl) T.b_sorted (by decide +kernel) (pa_cons (pe_callTy (cr_setN (by rfl) (Nat.lt_of_succ_lt hun)) (by rfl) T.b_set (by decide +kernel) (pa_cons (pv 0) pa_nil)) pa_nil)) pa_nil))))), ?_⟩)
  rintro a bx X sb pre hE
  show WS K bx X H _ [some _] _ _ _ _
  refine ws_ret sb (w_lotN (w_var rfl ⟨_, Pm, pmK, a.2, rfl, ?_, ranked_pm _, pre.2, rfl, ?_⟩))
  · rw [pmK_fun]
    exact pre.1
  · show Dat.d _ = Dat.d _
    unfold sortP
    rw [pmK_fun]
theorem gk_lot_ofP (T : Tx K mg) : Gd P w K mg base CX0 1 "lot_of" ["values"] [] f_lot_pm := by
  obtain ⟨fd, F⟩ := T.F_lot_of
  exact ⟨fd, [], fk_lot_ofP T F, ⟨.nil, F.bindsN fun _ _ _ _ _ _ us hl => match us, hl with | [_], _ => rfl⟩, F.kp⟩
def f_formed_row : FnA (PyData × Int × Bool) := fnF (fun a => [.d a.1, .d (.int a.2.1), .d (.bool a.2.2)]) (fun a => ∀ ds, itemsD a.1 = some ds → ds.length ≤ 1000) (fun a => .d (rowF a.2.1 a.2.2 a.1))
def N_formed_row : List Str := ["value", "signs", "lists", "sign"]
theorem sc_formed_row : FnScope N_formed_row ["value", "signs", "lists"] (defScope (top 23)) := ⟨rfl, rfl, rfl, by decide +kernel, rfl, by decide +kernel, by decide +kernel⟩
theorem fk_formed_row (T : Tx K mg) {fd : FuncData} (F : FnP K "formed_row" 23 [.int (2), .bl true] (He.ga K "formed_row") fd) : FnOk P w K mg base CX0 3 (He.ga K "formed_row") fd ["value", "signs", "lists"] (spA K f_formed_row) := by
  refine fnA_ok F sc_formed_row (fun _ => rfl) (fun cdv A ou s H E hr => ⟨_, (PSs.nox (pss_cons (ps_if (pt_not (pt_val (pe_gd (gk_is_sequence_1 T) (hr.mono (by decide)) rfl T.g_is_sequence pass0 (pa_cons (pv 0) (pa_cons (pv 2) pa_nil)))))
      (pss_one (ps_ret pe_non))
      pss_nil)
      (pss_cons (ps_if (pt_not (pt_val (pe_callB (show CallR _ _ (rAll K) from cr_all (by rfl)) (by rfl) T.b_all (by decide +kernel) (pa_cons (pe_lc (own := [("sign", 3)]) (g := gName 3) (tt := tYes) rfl sc_formed_row.nd (pi_sq (pv 0)) (blkOk_by (N := N_formed_row) (sc := defScope (top 23)) (by decide +kernel)) (fun _ _ _ _ _ => (pg_name (i := 3) sc_formed_row.nd rfl (by first | exact Or.inl rfl | exact Or.inr rfl))) (fun _ _ _ _ _ => pts_nil) (fun _ _ _ _ _ => (pe_gd (gk_is_number_below T) (hr.mono (by decide)) rfl T.g_is_number_below pass0 (pa_cons (pv 3) (pa_cons (pv 1) pa_nil))))) pa_nil))))
      (pss_one (ps_ret pe_non))
      pss_nil)
      (pss_one (ps_ret (pe_callTy (show CallR _ _ (rTup K) from call_tuple_of) (by rfl) T.b_tuple (by decide +kernel) (pa_cons (pv 0) pa_nil))))))), ?_⟩)
  rintro a bx X sb pre hE
  show WS K bx X H _ [some _, some _, some _, none] _ _ _ _
  obtain ⟨d, s, lists⟩ := a
  replace pre : ∀ ds, itemsD d = some ds → ds.length ≤ 1000 := pre
  refine ws_seq (ws_if (wt_not (wt_b (w_callF (wa_cons (w_var rfl (wa_cons (w_var rfl (wa_nil ⟨(d, lists), rfl, rfl, trivial, _, rfl, fun c => ws_ret sb (w_non ⟨rfl, ?_⟩), fun c => ws_next ?_⟩)))))))))
  · have c' : seqB2 lists d = false := by simpa using c
    show Dat.d .none = Dat.d (rowF s lists d)
    unfold rowF
    cases itemsD d with
    | none => rfl
    | some ds => rw [c']; rfl
  · have c' : seqB2 lists d = true := by simpa using c
    obtain ⟨ds, hds⟩ : ∃ ds, itemsD d = some ds := by cases d <;> first | exact ⟨_, rfl⟩ | cases c'
    have few1 := pre ds hds
    have hs : seq? (.d d) = some ds := by cases d <;> first | exact hds | cases hds
    have e : rowF s lists d = if ds.all (fun x => belowB x s) = true then .tuple ds else .none := by
      unfold rowF
      rw [hds, c']
      rfl
    refine ws_seq (ws_if (wt_not (wt_b (w_all (wa_cons (w_of_wf (wf_map (wi_sq (w_var rfl ⟨d, ds, rfl, hs, by omega, PyData, ds, id, fun x => .bool (belowB x s), (List.map_id _).symm, fun x hx => wg_name (by decide) (w_callF (wa_cons (w_var rfl (wa_cons (w_var rfl (wa_nil ⟨(x, s), rfl, rfl, trivial, rfl⟩)))))), wa_nil ⟨ds.map fun x => belowB x s, (by rw [List.map_map]; rfl), _, rfl, fun c2 => ws_ret sb (w_non ⟨rfl, ?_⟩), fun c2 => ws_next (ws_ret sb (w_tuple (wa_cons (w_var rfl (wa_nil ⟨_, ds, rfl, hs, rfl, ?_⟩)))))⟩⟩)))))))))
    · have c3 : ds.all (fun x => belowB x s) = false := by simpa [List.all_map] using c2
      show Dat.d _ = Dat.d _
      rw [e, c3]
      rfl
    · have c3 : ds.all (fun x => belowB x s) = true := by simpa [List.all_map] using c2
      show Dat.d _ = Dat.d _
      rw [e, if_pos c3]
theorem gk_formed_row (T : Tx K mg) : Gd P w K mg base CX0 3 "formed_row" ["value", "signs", "lists"] [.int (2), .bl true] f_formed_row := by
  obtain ⟨fd, F⟩ := T.F_formed_row
  obtain ⟨ds, v1, b1⟩ := F.binds1 (ps := ["value", "signs", "lists"]) 1 0 (by decide) rfl fun T kV doc pm an cdv ct us its h1 h2 => match us, its, h1, h2 with | [_], [_, _], _, _ => ⟨_, rfl, rfl⟩
  exact ⟨fd, ds, fk_formed_row T F, ⟨v1, b1⟩, F.kp⟩
theorem gk_formed_row_1 (T : Tx K mg) : Gd P w K mg base CX0 3 "formed_row" ["value", "signs", "lists"] [.bl true] f_formed_row := by
  obtain ⟨fd, F⟩ := T.F_formed_row
  obtain ⟨ds, v1, b1⟩ := F.binds1 (ps := ["value", "signs", "lists"]) 2 1 (by decide) rfl fun T kV doc pm an cdv ct us its h1 h2 => match us, its, h1, h2 with | [_, _], [_, _], _, _ => ⟨_, rfl, rfl⟩
  exact ⟨fd, ds, fk_formed_row T F, ⟨v1, b1⟩, F.kp⟩
theorem gk_formed_row_2 (T : Tx K mg) : Gd P w K mg base CX0 3 "formed_row" ["value", "signs", "lists"] [] f_formed_row := by
  obtain ⟨fd, F⟩ := T.F_formed_row
  obtain ⟨ds, v1, b1⟩ := F.binds1 (ps := ["value", "signs", "lists"]) 3 2 (by decide) rfl fun T kV doc pm an cdv ct us its h1 h2 => match us, its, h1, h2 with | [_, _, _], [_, _], _, _ => ⟨_, rfl, rfl⟩
  exact ⟨fd, ds, fk_formed_row T F, ⟨v1, b1⟩, F.kp⟩
def f_row_of_places : FnA (PyData × Int × Int × Bool) := fnF (fun a => [.d a.1, .d (.int a.2.1), .d (.int a.2.2.1), .d (.bool a.2.2.2)]) (fun a => ∀ ds, itemsD a.1 = some ds → ds.length ≤ 1000) (fun a => .d (rowP a.2.2.1 a.2.2.2 a.1 a.2.1))
theorem rowF_is (s : Int) (b : Bool) (d : PyData) : rowF s b d = .none ∨ ∃ ds, rowF s b d = .tuple ds := by
  unfold rowF
  cases itemsD d with
  | none => exact .inl rfl
  | some ds =>
    by_cases c : (seqB2 b d && ds.all (fun x => belowB x s)) = true
    · exact .inr ⟨ds, if_pos c⟩
    · exact .inl (if_neg c)
def N_row_of_places : List Str := ["value", "places", "signs", "lists", "row"]
theorem sc_row_of_places : FnScope N_row_of_places ["value", "places", "signs", "lists"] (defScope (top 24)) := ⟨rfl, rfl, rfl, by decide +kernel, rfl, by decide +kernel, by decide +kernel⟩
theorem fk_row_of_places (T : Tx K mg) {fd : FuncData} (F : FnP K "row_of_places" 24 [.int (2), .bl true] (He.ga K "row_of_places") fd) : FnOk P w K mg base CX0 4 (He.ga K "row_of_places") fd ["value", "places", "signs", "lists"] (spA K f_row_of_places) := by
  refine fnA_ok F sc_row_of_places (fun _ => rfl) (fun cdv A ou s H E hr => ⟨_, (PSs.nox (pss_cons (ps_set (i := 4) sc_row_of_places.nd rfl (Or.inl rfl) (pe_gd (gk_formed_row_2 T) (hr.mono (by decide)) rfl T.g_formed_row pass0 (pa_cons (pv 0) (pa_cons (pv 2) (pa_cons (pv 3) pa_nil)))))
      (pss_one (ps_ret (pe_ifExp (PW.pt (pw_or (pt_cmpR op_isN (pv 4) pe_non (nomark _)) (pw_or1 (pt_cmpR op_ne (pe_callB (show CallR _ _ (rLenQ K) from call_len_seq) (by rfl) T.b_len PySem.boot_len (pa_cons (pv 4) pa_nil)) (pv 1) (nomark _))))) pe_non (pv 4)))))), ?_⟩)
  rintro a bx X sb pre hE
  show WS K bx X H _ [some _, some _, some _, some _, none] _ _ _ _
  obtain ⟨d, n, s, lists⟩ := a
  refine ws_seq (ws_asg (w_callF (wa_cons (w_var rfl (wa_cons (w_var rfl (wa_cons (w_var rfl (wa_nil ⟨(d, s, lists), rfl, rfl, pre, rfl, ?_⟩)))))))))
  rcases rowF_is s lists d with e | ⟨ds, e⟩
  · refine ws_ret sb (w_if (wt_or (wt_test (w_isN (w_var rfl (w_non ⟨true, rfl, by rw [e]; rfl, _, rfl, fun _ => ⟨fun _ => w_non ⟨rfl, ?_⟩, (fun c => nomatch c)⟩, (fun c => nomatch c)⟩))))))
    show Dat.d _ = Dat.d (rowP s lists d n)
    unfold rowP
    rw [e]
  · refine ws_ret sb (w_if (wt_or (wt_test (w_isN (w_var rfl (w_non ⟨false, rfl, by rw [e]; rfl, _, rfl, (fun c => nomatch c), fun _ => ?_⟩))))))
    refine wt_test (w_neI (w_lenQ (wa_cons (w_var rfl (wa_nil ⟨_, ds, rfl, by rw [e]; rfl, w_var rfl ⟨_, n, rfl, rfl, _, rfl, fun c => w_non ⟨rfl, ?_⟩, fun c => w_var rfl ⟨rfl, ?_⟩⟩⟩)))))
    · have c' : ¬ (ds.length : Int) = n := by simpa using c
      show Dat.d _ = Dat.d (rowP s lists d n)
      unfold rowP
      rw [e]
      show _ = Dat.d (if _ then _ else _)
      rw [if_neg c']
    · have c' : (ds.length : Int) = n := by simpa using c
      show Dat.d _ = Dat.d (rowP s lists d n)
      unfold rowP
      rw [e]
      show _ = Dat.d (if _ then _ else _)
      rw [if_pos c']
theorem gk_row_of_places (T : Tx K mg) : Gd P w K mg base CX0 4 "row_of_places" ["value", "places", "signs", "lists"] [.int (2), .bl true] f_row_of_places := by
  obtain ⟨fd, F⟩ := T.F_row_of_places
  obtain ⟨ds, v1, b1⟩ := F.binds1 (ps := ["value", "places", "signs", "lists"]) 2 0 (by decide) rfl fun T kV doc pm an cdv ct us its h1 h2 => match us, its, h1, h2 with | [_, _], [_, _], _, _ => ⟨_, rfl, rfl⟩
  exact ⟨fd, ds, fk_row_of_places T F, ⟨v1, b1⟩, F.kp⟩
theorem gk_row_of_places_1 (T : Tx K mg) : Gd P w K mg base CX0 4 "row_of_places" ["value", "places", "signs", "lists"] [.bl true] f_row_of_places := by
  obtain ⟨fd, F⟩ := T.F_row_of_places
  obtain ⟨ds, v1, b1⟩ := F.binds1 (ps := ["value", "places", "signs", "lists"]) 3 1 (by decide) rfl fun T kV doc pm an cdv ct us its h1 h2 => match us, its, h1, h2 with | [_, _, _], [_, _], _, _ => ⟨_, rfl, rfl⟩
  exact ⟨fd, ds, fk_row_of_places T F, ⟨v1, b1⟩, F.kp⟩
theorem gk_row_of_places_2 (T : Tx K mg) : Gd P w K mg base CX0 4 "row_of_places" ["value", "places", "signs", "lists"] [] f_row_of_places := by
  obtain ⟨fd, F⟩ := T.F_row_of_places
  obtain ⟨ds, v1, b1⟩ := F.binds1 (ps := ["value", "places", "signs", "lists"]) 4 2 (by decide) rfl fun T kV doc pm an cdv ct us its h1 h2 => match us, its, h1, h2 with | [_, _, _, _], [_, _], _, _ => ⟨_, rfl, rfl⟩
  exact ⟨fd, ds, fk_row_of_places T F, ⟨v1, b1⟩, F.kp⟩
theorem sci_InvalidSize : FnScope ["self", "word"] ["self", "word"] (defScope (inClass (top 8) 0)) := ⟨rfl, rfl, rfl, by decide +kernel, rfl, by decide +kernel, by decide +kernel⟩
theorem ini_InvalidSize (T : Tx K mg) : ∃ fd, FnOk P w K mg base CX0 1 (He.ma K (He.ga K "InvalidSize") "__init__") fd ["self", "word"] (spIni "word" (He.ga K "InvalidSize")) ∧ Binds K fd ["self", "word"] [] := by
  obtain ⟨fd, F⟩ := T.F_InvalidSize___init__
  refine ⟨fd, ?_, F.bindsN fun _ _ _ _ _ _ us hl => match us, hl with | [_, _], _ => rfl⟩
  refine F.ok sci_InvalidSize (fun vs H Q E h => ?_) (fun cdv A ou s H vs Q E hr h => ?_)
  · obtain ⟨a, y, rfl, _⟩ := h
    rfl
  · obtain ⟨a, y, rfl, ha, k⟩ := h
    exact ⟨_, PSs.nox (pss_one (ps_est (pv 0) (pv 1))), _, rfl, _, rfl, a, He.ga K "InvalidSize", rfl, T.E_InvalidSize, T.n_InvalidSize_word, .inl ⟨ha, fun dx n ne => k dx _ n ne (ini_end ne)⟩⟩
def f_need_places (K : PySem.W.Frag) : FnA PyData := ⟨fun d => [.d d], fun _ _ => True, fun d x => belowB d 4 = true ∧ x = .d d, fun d e => belowB d 4 = false ∧ e = ⟨He.ga K "InvalidSize", [("word", .str "places")]⟩⟩
def N_need_places : List Str := ["places"]
theorem sc_need_places : FnScope N_need_places ["places"] (defScope (top 26)) := ⟨rfl, rfl, rfl, by decide +kernel, rfl, by decide +kernel, by decide +kernel⟩
theorem fk_need_places (T : Tx K mg) {fd : FuncData} (F : FnP K "need_places" 26 [] (He.ga K "need_places") fd) : FnOk P w K mg base (L2.CX P w) 4 (He.ga K "need_places") fd ["places"] (spA K (f_need_places K)) := by
  obtain ⟨t_MOST_PLACES, m_MOST_PLACES⟩ := T.v_MOST_PLACES
  obtain ⟨fdI_InvalidSize, GI_InvalidSize, bI_InvalidSize⟩ := ini_InvalidSize (P := P) (w := w) (base := base) T
  refine fnA_ok F sc_need_places (fun _ => rfl) (fun cdv A ou s H E hr => ⟨_, (pss_cons (ps_if (pt_not (pt_val (pe_gd (gk_is_number_below T) (hr.mono (by decide)) rfl T.g_is_number_below pass0 (pa_cons (pv 0) (pa_cons (pe_op op_add (pe_glob (by rfl) m_MOST_PLACES (show RelV (.int 3) (.int 3 t_MOST_PLACES) from ⟨_, rfl⟩)) pe_int) pa_nil)))))
      (pss_one (ps_raise rfl (takes_of rfl rfl rfl rfl) (pmk_e T.E_InvalidSize T.I_InvalidSize GI_InvalidSize (hr.mono (by decide)) bI_InvalidSize .nil pass0 T.c_InvalidSize (pa_cons pe_str pa_nil))))
      pss_nil)
      (pss_one (ps_ret (pv 0)))), ?_⟩)
  rintro a bx X sb pre hE
  show WS K bx X H _ [some _] _ _ _ _
  refine ws_seq (ws_if (wt_not (wt_b (w_callF (wa_cons (w_var rfl (wa_cons (w_add (w_cdat (w_int ⟨3, 1, rfl, rfl, wa_nil ⟨(a, 4), rfl, rfl, trivial, _, rfl, fun c => ws_raise (w_str ⟨_, rfl, hE _ ⟨by simpa using c, rfl⟩⟩), fun c => ws_next (ws_ret sb (w_var rfl ⟨rfl, by simpa using c, rfl⟩))⟩⟩))))))))))
theorem gk_need_places (T : Tx K mg) : Gd P w K mg base (L2.CX P w) 4 "need_places" ["places"] [] (f_need_places K) := by
  obtain ⟨fd, F⟩ := T.F_need_places
  exact ⟨fd, [], fk_need_places T F, ⟨.nil, F.bindsN fun _ _ _ _ _ _ us hl => match us, hl with | [_], _ => rfl⟩, F.kp⟩
def f_formed_premise : FnA (PyData × Int) := ⟨fun a => [.d a.1, .d (.int a.2)], fun _ a => fewD a.1, fun a x => (premD a.2 a.1 = none ∧ x = .d .none) ∨ ∃ p, premD a.2 a.1 = some p ∧ x = .d (pmD p), fun _ _ => False⟩
theorem seq_items {d : PyData} : seq? (.d d) = itemsD d := by cases d <;> rfl
theorem seqB2_items {d : PyData} : seqB2 true d = (itemsD d).isSome := by cases d <;> rfl
theorem side_bad {n : Int} {x : PyData} {es : List PyData} (e : itemsD x = some es) (h : es.all (okP n) = false) : sideD n x = none := by
  unfold sideD
  rw [e]
  show (if es.all (okP n) = true then some (es.filterMap intD) else none) = none
  rw [h]
  rfl
theorem side_good {n : Int} {x : PyData} {es : List PyData} (e : itemsD x = some es) (h : es.all (okP n) = true) : sideD n x = some (es.filterMap intD) := by
  unfold sideD
  rw [e]
  show (if es.all (okP n) = true then some (es.filterMap intD) else none) = _
  rw [h]
  rfl
def N_formed_premise : List Str := ["value", "places", "side", "place"]
theorem sc_formed_premise : FnScope N_formed_premise ["value", "places"] (defScope (top 27)) := ⟨rfl, rfl, rfl, by decide +kernel, rfl, by decide +kernel, by decide +kernel⟩
theorem fk_formed_premise (T : Tx K mg) {fd : FuncData} (F : FnP K "formed_premise" 27 [] (He.ga K "formed_premise") fd) : FnOk P w K mg base CX0 2 (He.ga K "formed_premise") fd ["value", "places"] (spA K f_formed_premise) := by
  refine fnA_ok F sc_formed_premise (fun _ => rfl) (fun cdv A ou s H E hr => ⟨_, (PSs.nox (pss_cons (ps_if (PW.pt (pw_or (pt_not (pt_val (pe_gd (gk_is_sequence T) (hr.mono (by decide)) rfl T.g_is_sequence pass0 (pa_cons (pv 0) pa_nil)))) (pw_or1 (pt_cmpR op_ne (pe_callB (show CallR _ _ (rLenQ K) from call_len_seq) (by rfl) T.b_len PySem.boot_len (pa_cons (pv 0) pa_nil)) pe_int (nomark _)))))
      (pss_one (ps_ret pe_non))
      pss_nil)
      (pss_cons (ps_for PassesOwn.never rfl (pi_sq (pv 0)) (pg_name (i := 2) sc_formed_premise.nd rfl (Or.inl rfl))
      (pss_cons (ps_if (pt_not (pt_val (pe_gd (gk_is_sequence T) (hr.mono (by decide)) rfl T.g_is_sequence pass0 (pa_cons (pv 2) pa_nil))))
      (pss_one (ps_ret pe_non))
      pss_nil)
      (pss_one (ps_if (pt_not (pt_val (pe_callB (show CallR _ _ (rAll K) from cr_all (by rfl)) (by rfl) T.b_all (by decide +kernel) (pa_cons (pe_lc (own := [("place", 3)]) (g := gName 3) (tt := tYes) rfl sc_formed_premise.nd (pi_sq (pv 2)) (blkOk_by (N := N_formed_premise) (sc := defScope (top 27)) (by decide +kernel)) (fun _ _ _ _ _ => (pg_name (i := 3) sc_formed_premise.nd rfl (by first | exact Or.inl rfl | exact Or.inr rfl))) (fun _ _ _ _ _ => pts_nil) (fun _ _ _ _ _ => (pe_and (pe_gd (gk_is_number T) (hr.mono (by decide)) rfl T.g_is_number pass0 (pa_cons (pv 3) pa_nil)) (pe_one (pe_chain op_le op_le pe_int (pv 3) (pv 1)))))) pa_nil))))
      (pss_one (ps_ret pe_non))
      pss_nil))))
      (pss_one (ps_ret (pe_tup (pa_cons (pe_gd (gk_lot_ofI T) (hr.mono (by decide)) rfl T.g_lot_of pass0 (pa_cons (pe_ix ix_sq (pv 0) pe_int (fun _ _ => rfl)) pa_nil)) (pa_cons (pe_gd (gk_lot_ofI T) (hr.mono (by decide)) rfl T.g_lot_of pass0 (pa_cons (pe_ix ix_sq (pv 0) pe_int (fun _ _ => rfl)) pa_nil)) pa_nil)))))))), ?_⟩)
  rintro a bx X sb pre hE
  show WS K bx X H _ [some _, some _, none, none] _ _ _ _
  obtain ⟨d, n⟩ := a
  have fw : fewD d := pre
  cases hds : itemsD d with
  | none =>
    have e : premD n d = none := by
      unfold premD
      rw [hds]
    refine ws_seq (ws_if (wt_or (wt_not (wt_b (w_callF (wa_cons (w_var rfl (wa_nil ⟨(d, true), rfl, rfl, trivial, _, rfl, fun c => ⟨fun _ => ws_ret sb (w_non ⟨rfl, .inl ⟨e, rfl⟩⟩), (fun c => nomatch c)⟩, fun c => ?_⟩))))))))
    exfalso
    rw [seqB2_items, hds] at c
    cases c
  | some ds =>
    refine ws_seq (ws_if (wt_or (wt_not (wt_b (w_callF (wa_cons (w_var rfl (wa_nil ⟨(d, true), rfl, rfl, trivial, _, rfl, fun c => ?_, fun c => wt_test (w_neI (w_lenQ (wa_cons (w_var rfl (wa_nil ⟨_, ds, rfl, seq_items.trans hds, w_int ⟨_, 2, rfl, rfl, _, rfl, fun c2 => ws_ret sb (w_non ⟨rfl, .inl ⟨?_, rfl⟩⟩), fun c2 => ws_next ?_⟩⟩)))))⟩))))))))
    · exfalso
      rw [seqB2_items, hds] at c
      cases c
    · exact prem_none hds fun z => by
        rw [z] at c2
        cases c2
    · have l2 : ds.length = 2 := by
        have : ¬ ¬ ((ds.length : Int) = 2) := by simpa using c2
        omega
      obtain ⟨x, y, rfl⟩ : ∃ x y, ds = [x, y] := by
        match ds, l2 with
        | [x, y], _ => exact ⟨x, y, rfl⟩
      refine ws_seq (ws_for [2] (wi_sq (w_var rfl ⟨_, _, rfl, seq_items.trans hds, fun i ρ' => (∃ u v, ρ' = [some (.d d), some (.d (.int n)), u, v]) ∧ ∀ j < i, ∀ z, [x, y][j]? = some z → ∃ l, sideD n z = some l, ⟨⟨_, _, rfl⟩, fun j hj => by omega⟩, ?_, ?_⟩)))
      · rintro i z ρ' hz ⟨⟨u, v, rfl⟩, hp⟩
        refine wg_name (by decide) ?_
        have hm := List.mem_of_getElem? hz
        cases hes : itemsD z with
        | none =>
          refine ws_seq (ws_if (wt_not (wt_b (w_callF (wa_cons (w_var rfl (wa_nil ⟨(z, true), rfl, rfl, trivial, _, rfl, fun c => ws_ret sb (w_non ⟨rfl, .inl ⟨prem_bad hds hm (by unfold sideD; rw [hes]), rfl⟩⟩), fun c => ?_⟩)))))))
          exfalso
          rw [seqB2_items, hes] at c
          cases c
        | some es =>
          have fe := fw _ hds z hm es hes
          refine ws_seq (ws_if (wt_not (wt_b (w_callF (wa_cons (w_var rfl (wa_nil ⟨(z, true), rfl, rfl, trivial, _, rfl, fun c => ?_, fun c => ws_next ?_⟩)))))))
          · exfalso
            rw [seqB2_items, hes] at c
            cases c
          · refine ws_if (wt_not (wt_b (w_all (wa_cons (w_of_wf (wf_map (wi_sq (w_var rfl ⟨z, es, rfl, seq_items.trans hes, by omega, PyData, es, id, fun t => .bool (okP n t), (List.map_id _).symm, fun t ht => wg_name (by decide) (w_andV (w_callF (wa_cons (w_var rfl (wa_nil ⟨t, rfl, rfl, trivial, _, rfl, fun c => ?_, fun c => ?_⟩))))), wa_nil ⟨es.map (okP n), (by rw [List.map_map]; rfl), _, rfl, fun c2 => ws_ret sb (w_non ⟨rfl, .inl ⟨prem_bad hds hm (side_bad hes ?_), rfl⟩⟩), fun c2 => ws_next ⟨⟨_, _, rfl⟩, ?_⟩⟩⟩))))))))
            · cases t with
              | int k =>
                have c' : decide (0 ≤ k) = true := c
                refine w_chainL (w_int (w_var rfl ⟨1, k, rfl, rfl, fun h1 => w_var rfl ⟨n, rfl, ?_⟩, fun h1 => ?_⟩))
                · show some (PyData.bool (decide (k ≤ n))) = some (PyData.bool (decide (0 ≤ k) && (decide (1 ≤ k) && decide (k ≤ n))))
                  rw [c', decide_eq_true h1]
                  rfl
                · show some (PyData.bool false) = some (PyData.bool (decide (0 ≤ k) && (decide (1 ≤ k) && decide (k ≤ n))))
                  rw [c', decide_eq_false h1]
                  rfl
              | _ => cases c
            · cases t with
              | int k =>
                have c' : decide (0 ≤ k) = false := c
                show some (PyData.bool false) = some (PyData.bool (decide (0 ≤ k) && (decide (1 ≤ k) && decide (k ≤ n))))
                rw [c']
                rfl
              | _ => rfl
            · simpa [List.all_map] using c2
            · intro j hj q hq
              by_cases ji : j = i
              · subst ji
                rw [hz] at hq
                cases hq
                exact ⟨_, side_good hes (by simpa [List.all_map] using c2)⟩
              · exact hp j (by omega) q hq
      · rintro ρ' ⟨⟨u, v, rfl⟩, hp⟩
        obtain ⟨l, hl⟩ := hp 0 (by show 0 < 2; omega) x rfl
        obtain ⟨r, hr2⟩ := hp 1 (by show 1 < 2; omega) y rfl
        have side : ∀ {z : PyData} {l : List Int}, z ∈ [x, y] → sideD n z = some l → seq? (.d z) = some (l.map PyData.int) ∧ l.length < 64 := by
          intro z l hm hl
          cases hes : itemsD z with
          | none =>
            unfold sideD at hl
            rw [hes] at hl
            cases hl
          | some es =>
            cases he : es.all (okP n) with
            | false =>
              rw [side_bad hes he] at hl
              cases hl
            | true =>
              rw [side_good hes he] at hl
              cases hl
              have := ok_ints he
              have fe := fw _ hds z hm es hes
              refine ⟨by rw [← this]; exact seq_items.trans hes, ?_⟩
              have := List.length_filterMap_le intD es
              omega
        refine ws_ret sb (w_tup (wa_cons (w_callF (wa_cons (w_ix (w_var rfl (w_int ⟨_, 0, x, seq_items.trans hds, rfl, rfl, wa_nil ⟨(x, l), rfl, rfl, side List.mem_cons_self hl, ?_⟩⟩)))))))
        refine wa_cons (w_callF (wa_cons (w_ix (w_var rfl (w_int ⟨_, 1, y, seq_items.trans hds, rfl, rfl, wa_nil ⟨(y, r), rfl, rfl, side (List.mem_cons_of_mem _ List.mem_cons_self) hr2, wa_nil ⟨_, rfl, lek rfl, rfl, .inr ⟨(ordI l, ordI r), prem_some hds hl hr2, rfl⟩⟩⟩⟩)))))
theorem gk_formed_premise (T : Tx K mg) : Gd P w K mg base CX0 2 "formed_premise" ["value", "places"] [] f_formed_premise := by
  obtain ⟨fd, F⟩ := T.F_formed_premise
  exact ⟨fd, [], fk_formed_premise T F, ⟨.nil, F.bindsN fun _ _ _ _ _ _ us hl => match us, hl with | [_, _], _ => rfl⟩, F.kp⟩
end
end K03

set_option Elab.async false
set_option linter.all false
set_option pp.maxSteps 1500
set_option pp.deepTerms false
set_option maxRecDepth 100000
set_option maxHeartbeats 8000000
namespace K03
open PySem PySem.Spec PyProof.Rows L2 Say
section
variable {P : Program} {w : World} {K : PySem.W.Frag} {mg : Str → Option Value} {base : Heap}
theorem sci_InvalidPremises : FnScope ["self", "at"] ["self", "at"] (defScope (inClass (top 7) 0)) := ⟨rfl, rfl, rfl, by decide +kernel, rfl, by decide +kernel, by decide +kernel⟩
theorem ini_InvalidPremises (T : Tx K mg) : ∃ fd, FnOk P w K mg base CX0 1 (He.ma K (He.ga K "InvalidPremises") "__init__") fd ["self", "at"] (spIni "at" (He.ga K "InvalidPremises")) ∧ Binds K fd ["self", "at"] [] := by
  obtain ⟨fd, F⟩ := T.F_InvalidPremises___init__
  refine ⟨fd, ?_, F.bindsN fun _ _ _ _ _ _ us hl => match us, hl with | [_, _], _ => rfl⟩
  refine F.ok sci_InvalidPremises (fun vs H Q E h => ?_) (fun cdv A ou s H vs Q E hr h => ?_)
  · obtain ⟨a, y, rfl, _⟩ := h
    rfl
  · obtain ⟨a, y, rfl, ha, k⟩ := h
    exact ⟨_, PSs.nox (pss_one (ps_est (pv 0) (pv 1))), _, rfl, _, rfl, a, He.ga K "InvalidPremises", rfl, T.E_InvalidPremises, T.n_InvalidPremises_at, .inl ⟨ha, fun dx n ne => k dx _ n ne (ini_end ne)⟩⟩
def f_need_premises (K : PySem.W.Frag) : FnA (PyData × Int) := ⟨fun a => [.d a.1, .d (.int a.2)], fun _ a => fewAll a.1, fun a x => ∃ ps, needD a.2 a.1 = .inr ps ∧ x = .d (.tuple (ps.map pmD)), fun a e => ∃ k, needD a.2 a.1 = .inl k ∧ e = ⟨He.ga K "InvalidPremises", [("at", .int k)]⟩⟩
def N_need_premises : List Str := ["premises", "places", "formed", "at", "value", "premise"]
theorem sc_need_premises : FnScope N_need_premises ["premises", "places"] (defScope (top 28)) := ⟨rfl, rfl, rfl, by decide +kernel, rfl, by decide +kernel, by decide +kernel⟩
theorem fk_need_premises (T : Tx K mg) {fd : FuncData} (F : FnP K "need_premises" 28 [] (He.ga K "need_premises") fd) : FnOk P w K mg base (L2.CX P w) 4 (He.ga K "need_premises") fd ["premises", "places"] (spA K (f_need_premises K)) := by
  obtain ⟨fdI_InvalidPremises, GI_InvalidPremises, bI_InvalidPremises⟩ := ini_InvalidPremises (P := P) (w := w) (base := base) T
  refine fnA_ok F sc_need_premises (fun _ => rfl) (fun cdv A ou s H E hr => ⟨_, (pss_cons (ps_if (pt_not (pt_val (pe_gd (gk_is_sequence T) (hr.mono (by decide)) rfl T.g_is_sequence pass0 (pa_cons (pv 0) pa_nil))))
      (pss_one (ps_raise rfl (takes_of rfl rfl rfl rfl) (pmk_e T.E_InvalidPremises T.I_InvalidPremises GI_InvalidPremises (hr.mono (by decide)) bI_InvalidPremises .nil pass0 T.c_InvalidPremises (pa_cons (pe_un un_neg pe_int) pa_nil))))
      pss_nil)
      (pss_cons (ps_set (i := 2) sc_need_premises.nd rfl (Or.inl rfl) (pe_lst pa_nil))
      (pss_cons (ps_for (passes_of rfl) rfl (pi_enumSq (by rfl) T.b_enumerate (pa_cons (pv 0) pa_nil)) (pg_tup (by rfl) (pgs_cons (pg_name (i := 3) sc_need_premises.nd rfl (Or.inl rfl)) (pgs_cons (pg_name (i := 4) sc_need_premises.nd rfl (Or.inl rfl)) pgs_nil)))
      (pss_cons (ps_set (i := 5) sc_need_premises.nd rfl (Or.inl rfl) (pe_gd (gk_formed_premise T) (hr.mono (by decide)) rfl T.g_formed_premise pass0 (pa_cons (pv 4) (pa_cons (pv 1) pa_nil))))
      (pss_cons (ps_if (pt_cmpR op_isN (pv 5) pe_non (nomark _))
      (pss_one (ps_raise rfl (takes_of rfl rfl rfl rfl) (pmk_e T.E_InvalidPremises T.I_InvalidPremises GI_InvalidPremises (hr.mono (by decide)) bI_InvalidPremises .nil pass0 T.c_InvalidPremises (pa_cons (pv 3) pa_nil))))
      pss_nil)
      (pss_one (ps_expr (pe_bm PySem.F.plainAttrs_list PySem.F.slot_list_append PySem.F.type_list_append mt_append (pv 2) (pa_cons (pv 5) pa_nil)))))))
      (pss_one (ps_ret (pe_callTy (show CallR _ _ (rTup K) from call_tuple_of) (by rfl) T.b_tuple (by decide +kernel) (pa_cons (pv 2) pa_nil))))))), ?_⟩)
  rintro a bx X sb pre hE
  show WS K bx X H _ [some _, some _, none, none, none, none] _ _ _ _
  obtain ⟨d, n⟩ := a
  replace pre : fewAll d := pre
  have hE' : ∀ k, needD n d = .inl k → GivesE K bx X H E ⟨He.ga K "InvalidPremises", [("at", .int k)]⟩ := fun k hk => hE _ ⟨k, hk, rfl⟩
  cases hds : itemsD d with
  | none =>
    have en : needD n d = .inl (-1) := by unfold needD; rw [hds]
    refine ws_seq (ws_if (wt_not (wt_b (w_callF (wa_cons (w_var rfl (wa_nil ⟨(d, true), rfl, rfl, trivial, _, rfl, fun c => ws_raise (w_neg (w_int ⟨1, rfl, _, rfl, hE' _ en⟩)), fun c => ?_⟩)))))))
    exfalso
    rw [seqB2_items, hds] at c
    cases c
  | some ds =>
    have en : needD n d = needGo n 0 ds := by unfold needD; rw [hds]
    obtain ⟨fw, d200⟩ := pre ds hds
    refine ws_seq (ws_if (wt_not (wt_b (w_callF (wa_cons (w_var rfl (wa_nil ⟨(d, true), rfl, rfl, trivial, _, rfl, fun c => ?_, fun c => ws_next ?_⟩)))))))
    · exfalso
      rw [seqB2_items, hds] at c
      cases c
    refine ws_seq (ws_own (wf_lst (wa_nil ⟨[], rfl, lek rfl, fun D hD => ?_⟩)))
    refine ws_forS [3, 4] [3, 4, 5] (wi_en (wa_cons (w_var rfl (wa_nil ⟨_, d, ds, rfl, rfl, seq_items.trans hds, fun i ρ' => ∃ acc : List Pm, ρ' = [some (.d d), some (.d (.int n)), some (.o D (acc.map pmD)), none, none, none] ∧ acc.length = i ∧ withPs acc (needGo n i (ds.drop i)) = needGo n 0 ds, ⟨[], rfl, rfl, by show withPs [] (needGo n 0 ds) = _; cases needGo n 0 ds <;> rfl⟩, ?_, ?_⟩))))
    · rintro i z ρ' hz ⟨acc, rfl, hlen, hN⟩
      rw [List.getElem?_mapIdx] at hz
      obtain ⟨y, hy, rfl⟩ := Option.map_eq_some_iff.mp hz
      have il : i < ds.length := (List.getElem?_eq_some_iff.mp hy).1
      have edrop : ds.drop i = y :: ds.drop (i + 1) := by
        rw [List.drop_eq_getElem_cons il]
        congr 1
        rw [List.getElem?_eq_getElem il] at hy
        exact Option.some.inj hy
      rw [edrop] at hN
      have fy := fw y (List.mem_of_getElem? hy)
      refine wg_tup rfl rfl (wgs_cons (wg_name (by decide) (wgs_cons (wg_name (by decide) (wgs_nil ?_)))))
      refine ws_seq (ws_asg (w_call (wa_cons (w_var rfl (wa_cons (w_var rfl (wa_nil ⟨(y, n), rfl, rfl, fy, ?_, fun e he => False.elim he⟩)))))))
      rintro x (⟨en2, rfl⟩ | ⟨p, ep, rfl⟩)
      · refine ⟨rfl, ws_seq (ws_if (wt_test (w_isN (w_var rfl (w_non ⟨true, rfl, rfl, _, rfl, fun _ => ws_raise (w_var rfl ⟨_, rfl, hE' _ ?_⟩), (fun c => nomatch c)⟩)))))⟩
        rw [en, ← hN]
        unfold needGo
        rw [en2]
        rfl
      · refine ⟨rfl, ws_seq (ws_if (wt_test (w_isN (w_var rfl (w_non ⟨false, rfl, rfl, _, rfl, (fun c => nomatch c), fun _ => ws_next ?_⟩)))))⟩
        refine ws_append rfl (only1 rfl) (by rw [List.length_map]; omega) (wa_cons (w_var rfl (wa_nil ⟨_, pmD p, rfl, rfl, acc ++ [p], ?_, by rw [List.length_append, hlen]; rfl, ?_⟩)))
        · rw [List.map_append]
          rfl
        · rw [← hN]
          conv => rhs; unfold needGo
          rw [ep]
          cases needGo n (i + 1) (ds.drop (i + 1)) with
          | inl k => rfl
          | inr ps =>
            show Sum.inr (acc ++ [p] ++ ps) = Sum.inr (acc ++ (p :: ps))
            rw [List.append_assoc]
            rfl
    · rintro ρ' ⟨acc, rfl, hlen, hN⟩
      rw [List.length_mapIdx, List.drop_length] at hN
      refine ws_frz (i := 2) rfl (only1 rfl) (ws_ret sb (w_tuple (wa_cons (w_var rfl (wa_nil ⟨_, _, rfl, rfl, rfl, acc, ?_, rfl⟩)))))
      rw [en, ← hN]
      show Sum.inr (acc ++ []) = Sum.inr acc
      rw [List.append_nil]
theorem gk_need_premises (T : Tx K mg) : Gd P w K mg base (L2.CX P w) 4 "need_premises" ["premises", "places"] [] (f_need_premises K) := by
  obtain ⟨fd, F⟩ := T.F_need_premises
  exact ⟨fd, [], fk_need_premises T F, ⟨.nil, F.bindsN fun _ _ _ _ _ _ us hl => match us, hl with | [_, _], _ => rfl⟩, F.kp⟩
def f_is_within : FnA (Pm × Pm) := fnF (fun a => [.d (pmD a.1), .d (pmD a.2)]) (fun a => can3 a.1) (fun a => .d (.bool (withinB a.1 a.2)))
/-- a side by its number -/
def sideN (p : Pm) (i : Nat) : List Int := if i = 0 then p.1 else p.2
def N_is_within : List Str := ["premise", "other", "side", "place"]
theorem sc_is_within : FnScope N_is_within ["premise", "other"] (defScope (top 32)) := ⟨rfl, rfl, rfl, by decide +kernel, rfl, by decide +kernel, by decide +kernel⟩
theorem fk_is_within (T : Tx K mg) {fd : FuncData} (F : FnP K "is_within" 32 [] (He.ga K "is_within") fd) : FnOk P w K mg base CX0 1 (He.ga K "is_within") fd ["premise", "other"] (spA K f_is_within) := by
  refine fnA_ok F sc_is_within (fun _ => rfl) (fun cdv A ou s H E hr => ⟨_, (PSs.nox (pss_one (ps_ret (pe_callB (show CallR _ _ (rAll K) from cr_all (by rfl)) (by rfl) T.b_all (by decide +kernel) (pa_cons (pe_lc2 (own := [("side", 2), ("place", 3)]) (vs1 := [3]) (g := gName 2) (g1 := gName 3) (tt := tYes) (tt1 := tYes) rfl sc_is_within.nd (pi_sq (pe_tup (pa_cons pe_int (pa_cons pe_int pa_nil)))) (blkOk_by (N := N_is_within) (sc := defScope (top 32)) (by decide +kernel)) (by decide) (fun _ _ _ _ _ => (pg_name (i := 2) sc_is_within.nd rfl (by first | exact Or.inl rfl | exact Or.inr rfl))) (fun _ _ _ _ _ => pts_nil) (fun _ _ _ _ _ => (pi_sqK K rfl (pe_ix (ixK K rfl) (pv 0) (pv 2) (fun _ _ => rfl)))) (fun _ _ _ _ _ => (pg_name (i := 3) sc_is_within.nd rfl (by first | exact Or.inl rfl | exact Or.inr rfl))) (fun _ _ _ _ _ => pts_nil) (fun _ _ _ _ _ => (pe_cmpR (inK K rfl) (pv 3) (pe_ix (ixK K rfl) (pv 1) (pv 2) (fun _ _ => rfl)) rfl))) pa_nil))))), ?_⟩)
  rintro a bx X sb pre hE
  show WS K bx X H _ [some _, some _, none, none] _ _ _ _
  obtain ⟨p, q⟩ := a
  have l3 := can_len (show can3 p from pre)
  refine ws_ret sb (w_all (wa_cons (w_of_wf (wf_map2 (wi_sq (w_tup (wa_cons (w_int (wa_cons (w_int (wa_nil ⟨[.int 0, .int 1], rfl, lek rfl, _, [.int 0, .int 1], rfl, rfl, Nat, Int, [0, 1], fun i => .int (i : Nat), sideN p, PyData.int, fun i x => .bool (decide (x ∈ sideN q i)), rfl, fun i hi => wg_name (by decide) ?_, ?_, wa_nil ⟨((p.1.map fun x => decide (x ∈ q.1)) ++ p.2.map fun x => decide (x ∈ q.2)), ?_, rfl, ?_⟩⟩)))))))))))
  · have at_ : ∀ r : Pm, atI [PyData.tuple (r.1.map PyData.int), PyData.tuple (r.2.map PyData.int)] (i : Nat) = some (.tuple ((sideN r i).map PyData.int)) := fun r => by
      simp only [List.mem_cons, List.not_mem_nil, or_false] at hi
      rcases hi with rfl | rfl <;> rfl
    refine wi_sq (w_ix (w_var rfl (w_var rfl ⟨_, (i : Nat), _, rfl, rfl, at_ p, _, _, rfl, rfl, rfl, fun x hx => wg_name (by decide) ?_⟩)))
    exact w_inI (w_var rfl (w_ix (w_var rfl (w_var rfl ⟨_, (i : Nat), _, rfl, rfl, at_ q, x, sideN q i, rfl, rfl, rfl⟩))))
  · show (((sideN p 0).map _) ++ (((sideN p 1).map _) ++ [])).length ≤ _
    simp only [List.length_append, List.length_map, List.length_nil]
    show p.1.length + (p.2.length + 0) ≤ 100000
    omega
  · show [Dat.ls ((p.1.map fun x => PyData.bool (decide (x ∈ q.1))) ++ ((p.2.map fun x => PyData.bool (decide (x ∈ q.2))) ++ []))] = _
    rw [List.append_nil, List.map_append, List.map_map, List.map_map]
    rfl
  · show Dat.d _ = Dat.d _
    rw [List.all_append, List.all_map, List.all_map]
    rfl
theorem gk_is_within (T : Tx K mg) : Gd P w K mg base CX0 1 "is_within" ["premise", "other"] [] f_is_within := by
  obtain ⟨fd, F⟩ := T.F_is_within
  exact ⟨fd, [], fk_is_within T F, ⟨.nil, F.bindsN fun _ _ _ _ _ _ us hl => match us, hl with | [_, _], _ => rfl⟩, F.kp⟩
def plainL : Nat → List Pm
  | 0 => [([], [])]
  | n + 1 => plainL n ++ ((plainL n).map fun p => (p.1 ++ [((n + 1 : Nat) : Int)], p.2)) ++ (plainL n).map fun p => (p.1, p.2 ++ [((n + 1 : Nat) : Int)])
theorem plainL_len : ∀ n, (plainL n).length = 3 ^ n
  | 0 => rfl
  | n + 1 => by
    show (plainL n ++ _ ++ _).length = _
    simp only [List.length_append, List.length_map, plainL_len n]
    omega
theorem plainL_few : ∀ n, ∀ p ∈ plainL n, p.1.length ≤ n ∧ p.2.length ≤ n
  | 0, p, h => by
    rw [List.mem_singleton.mp h]
    exact ⟨Nat.le_refl _, Nat.le_refl _⟩
  | n + 1, p, h => by
    rcases List.mem_append.mp h with h | h
    · rcases List.mem_append.mp h with h | h
      · have := plainL_few n p h
        omega
      · obtain ⟨q, hq, rfl⟩ := List.mem_map.mp h
        have := plainL_few n q hq
        simp only [List.length_append, List.length_cons, List.length_nil]
        omega
    · obtain ⟨q, hq, rfl⟩ := List.mem_map.mp h
      have := plainL_few n q hq
      simp only [List.length_append, List.length_cons, List.length_nil]
      omega
def f_plain_premises : FnA Nat := ⟨fun n => [.d (.int (n : Nat))], fun _ n => n ≤ 3, fun n x => x = .ls ((plainL n).map pmD), fun _ _ => False⟩
def N_plain_premises : List Str := ["places", "premises", "place", "more", "left", "right"]
theorem sc_plain_premises : FnScope N_plain_premises ["places"] (defScope (top 33)) := ⟨rfl, rfl, rfl, by decide +kernel, rfl, by decide +kernel, by decide +kernel⟩
theorem fk_plain_premises (T : Tx K mg) {fd : FuncData} (F : FnP K "plain_premises" 33 [] (He.ga K "plain_premises") fd) : FnOk P w K mg base CX0 1 (He.ga K "plain_premises") fd ["places"] (spA K f_plain_premises) := by
  refine fnA_ok F sc_plain_premises (fun _ => rfl) (fun cdv A ou s H E hr => ⟨_, (PSs.nox (pss_cons (ps_set (i := 1) sc_plain_premises.nd rfl (Or.inl rfl) (pe_lst (pa_cons (pe_tup (pa_cons (pe_tup pa_nil) (pa_cons (pe_tup pa_nil) pa_nil))) pa_nil)))
      (pss_cons (ps_for PassesOwn.never rfl (pi_range2 (by rfl) T.b_range (pa_cons pe_int (pa_cons (pe_op op_add (pv 0) pe_int) pa_nil))) (pg_name (i := 2) sc_plain_premises.nd rfl (Or.inr rfl))
      (pss_cons (ps_setLc (i := 3) (own := [("left", 4), ("right", 5)]) (tt := tYes) rfl sc_plain_premises.nd rfl rfl (sw_true rfl rfl rfl (by decide +kernel)) (pi_sq (pv 1)) (blkOk_by (N := N_plain_premises) (sc := defScope (top 33)) (by decide +kernel)) (fun _ _ _ _ _ => (pg_tupK (n := 2) K rfl (by rfl) (pgs_cons (pg_name (i := 4) sc_plain_premises.nd rfl (by first | exact Or.inl rfl | exact Or.inr rfl)) (pgs_cons (pg_name (i := 5) sc_plain_premises.nd rfl (by first | exact Or.inl rfl | exact Or.inr rfl)) pgs_nil)))) (fun _ _ _ _ _ => pts_nil) (fun _ _ _ _ _ => (pe_tup (pa_cons (pe_op (cataK K rfl) (pv 4) (pe_tup (pa_cons (pv 2) pa_nil))) (pa_cons (pv 5) pa_nil)))))
      (pss_cons (ps_expr (pe_bm PySem.F.plainAttrs_list PySem.F.slot_list_extend PySem.F.type_list_extend mt_extend (pv 3) (pa_cons (pe_lc (own := [("left", 4), ("right", 5)]) (tt := tYes) rfl sc_plain_premises.nd (pi_sq (pv 1)) (blkOk_by (N := N_plain_premises) (sc := defScope (top 33)) (by decide +kernel)) (fun _ _ _ _ _ => (pg_tupK (n := 2) K rfl (by rfl) (pgs_cons (pg_name (i := 4) sc_plain_premises.nd rfl (by first | exact Or.inl rfl | exact Or.inr rfl)) (pgs_cons (pg_name (i := 5) sc_plain_premises.nd rfl (by first | exact Or.inl rfl | exact Or.inr rfl)) pgs_nil)))) (fun _ _ _ _ _ => pts_nil) (fun _ _ _ _ _ => (pe_tup (pa_cons (pv 4) (pa_cons (pe_op (cataK K rfl) (pv 5) (pe_tup (pa_cons (pv 2) pa_nil))) pa_nil))))) pa_nil)))
      (pss_one (ps_set (i := 1) sc_plain_premises.nd rfl (Or.inl rfl) (pe_op op_cat (pv 1) (pv 3)))))))
      (pss_one (ps_ret (pv 1)))))), ?_⟩)
  rintro a bx X sb pre hE
  show WS K bx X H _ [some _, none, none, none, none, none] _ _ _ _
  replace pre : a ≤ 3 := pre
  have lens : ∀ i ≤ 3, (plainL i).length ≤ 27 := fun i hi => by
    rw [plainL_len]
    exact Nat.le_trans (Nat.pow_le_pow_right (by decide) hi) (by decide)
  refine ws_seq (ws_asg (w_of_wf (wf_lst (wa_cons (w_tup (wa_cons (w_tup (wa_nil ⟨[], rfl, lek rfl, wa_cons (w_tup (wa_nil ⟨[], rfl, lek rfl, wa_nil ⟨[.tuple [], .tuple []], rfl, lek rfl, wa_nil ⟨[_], rfl, lek rfl, rfl, ?_⟩⟩⟩))⟩))))))))
  refine ws_forS [2] [2, 3] (wi_r2 (wa_cons (w_int (wa_cons (w_add (w_var rfl (w_int ⟨(a : Nat), 1, rfl, rfl, wa_nil ⟨1, (a : Nat) + 1, rfl, ⟨by omega, by omega, by omega, by omega⟩, fun i ρ' => ρ' = [some (.d (.int (a : Nat))), some (.ls ((plainL i).map pmD)), none, none, none, none], rfl, ?_, ?_⟩⟩))))))) 
  · rintro i z ρ' hz rfl
    have hi : i < a := by
      have := (List.getElem?_eq_some_iff.mp hz).1
      rw [List.length_map, List.length_range] at this
      omega
    have ez : z = .int ((i + 1 : Nat) : Int) := by
      rw [List.getElem?_map, List.getElem?_range (by omega)] at hz
      have := Option.some.inj hz
      rw [← this]
      show PyData.int (1 + (i : Nat)) = PyData.int ((i + 1 : Nat) : Int)
      have e2 : (1 + (i : Nat) : Int) = ((i + 1 : Nat) : Int) := by omega
      rw [e2]
    subst ez
    have fl := lens i (by omega)
    have fp := plainL_few i
    refine wg_name (by decide) (ws_seq (ws_own (wf_map (wi_sq (w_var rfl ⟨_, _, rfl, rfl, few fl, Pm, plainL i, pmD, fun p => pmD (p.1 ++ [((i + 1 : Nat) : Int)], p.2), rfl, fun p hp => wg_tup rfl rfl (wgs_cons (wg_name (by decide) (wgs_cons (wg_name (by decide) (wgs_nil ?_))))), fun D hD => ?_⟩)))))
    · have := fp p hp
      refine w_tup (wa_cons (w_catT (w_var rfl (w_tup (wa_cons (w_var rfl (wa_nil ⟨[.int ((i + 1 : Nat) : Int)], rfl, lek rfl, _, _, rfl, rfl, ?_, wa_cons (w_var rfl (wa_nil ⟨_, rfl, lek rfl, ?_⟩))⟩)))))))
      · simp only [List.length_map, List.length_cons, List.length_nil]
        omega
      · show some (PyData.tuple [.tuple (p.1.map PyData.int ++ [.int ((i + 1 : Nat) : Int)]), .tuple (p.2.map PyData.int)]) = some (pmD (p.1 ++ [((i + 1 : Nat) : Int)], p.2))
        unfold pmD
        rw [List.map_append]
        rfl
    refine ws_seq (ws_extend rfl (only1 rfl) (wa_cons (w_of_wf (wf_map (wi_sq (w_var rfl ⟨_, _, rfl, rfl, few fl, Pm, plainL i, pmD, fun p => pmD (p.1, p.2 ++ [((i + 1 : Nat) : Int)]), rfl, fun p hp => wg_tup rfl rfl (wgs_cons (wg_name (by decide) (wgs_cons (wg_name (by decide) (wgs_nil ?_))))), wa_nil ⟨_, rfl, ?_, ?_⟩⟩))))))
    · have := fp p hp
      refine w_tup (wa_cons (w_var rfl (wa_cons (w_catT (w_var rfl (w_tup (wa_cons (w_var rfl (wa_nil ⟨[.int ((i + 1 : Nat) : Int)], rfl, lek rfl, _, _, rfl, rfl, ?_, wa_nil ⟨_, rfl, lek rfl, ?_⟩⟩)))))))))
      · simp only [List.length_map, List.length_cons, List.length_nil]
        omega
      · show some (PyData.tuple [.tuple (p.1.map PyData.int), .tuple (p.2.map PyData.int ++ [.int ((i + 1 : Nat) : Int)])]) = some (pmD (p.1, p.2 ++ [((i + 1 : Nat) : Int)]))
        unfold pmD
        rw [List.map_append]
        rfl
    · simp only [List.length_map]
      omega
    · refine ws_frz (i := 3) rfl (only1 rfl) (ws_asg (w_of_wf (wf_cat (w_var rfl (w_var rfl ⟨_, _, rfl, rfl, ?_, rfl, ?_⟩)))))
      · simp only [List.length_map, List.length_append]
        omega
      · show [some (Dat.d (.int (a : Nat))), some (Dat.ls ((plainL i).map pmD ++ (((plainL i).map fun p => pmD (p.1 ++ [((i + 1 : Nat) : Int)], p.2)) ++ (plainL i).map fun p => pmD (p.1, p.2 ++ [((i + 1 : Nat) : Int)])))), none, none, none, none] = _
        have e : (plainL (i + 1)).map pmD = (plainL i).map pmD ++ (((plainL i).map fun p => pmD (p.1 ++ [((i + 1 : Nat) : Int)], p.2)) ++ (plainL i).map fun p => pmD (p.1, p.2 ++ [((i + 1 : Nat) : Int)])) := by
          show (plainL i ++ _ ++ _).map pmD = _
          rw [List.map_append, List.map_append, List.map_map, List.map_map, List.append_assoc]
          rfl
        rw [e]
  · rintro ρ' rfl
    have e : (List.map (fun i : Nat => PyData.int (1 + (i : Nat))) (List.range ((a : Int) + 1 - 1).toNat)).length = a := by
      rw [List.length_map, List.length_range]
      omega
    rw [e]
    exact ws_ret sb (w_var rfl ⟨rfl, rfl⟩)
theorem gk_plain_premises (T : Tx K mg) : Gd P w K mg base CX0 1 "plain_premises" ["places"] [] f_plain_premises := by
  obtain ⟨fd, F⟩ := T.F_plain_premises
  exact ⟨fd, [], fk_plain_premises T F, ⟨.nil, F.bindsN fun _ _ _ _ _ _ us hl => match us, hl with | [_], _ => rfl⟩, F.kp⟩
end
end K03

set_option Elab.async false
set_option linter.all false
set_option pp.maxSteps 1500
set_option pp.deepTerms false
set_option maxRecDepth 100000
set_option maxHeartbeats 8000000
namespace K03
open PySem PySem.Spec PyProof.Rows L2 Say
section
variable {P : Program} {w : World} {K : PySem.W.Frag} {mg : Str → Option Value} {base : Heap}
noncomputable def f_least_premises : FnA (List Pm) := fnF (fun ps => [.d (.list (ps.map pmD))]) (fun ps => (∀ p ∈ ps, can3 p) ∧ ps.length < 64) (fun ps => .d (.tuple ((sortP (leastL ps)).map pmD)))
def N_least_premises : List Str := ["premises", "least", "each", "other"]
theorem sc_least_premises : FnScope N_least_premises ["premises"] (defScope (top 34)) := ⟨rfl, rfl, rfl, by decide +kernel, rfl, by decide +kernel, by decide +kernel⟩
theorem fk_least_premises (T : Tx K mg) {fd : FuncData} (F : FnP K "least_premises" 34 [] (He.ga K "least_premises") fd) : FnOk P w K mg base CX0 3 (He.ga K "least_premises") fd ["premises"] (spA K f_least_premises) := by
  refine fnA_ok F sc_least_premises (fun _ => rfl) (fun cdv A ou s H E hr => have hun := room65 hr; ⟨_, (PSs.nox (pss_cons (ps_setLc (i := 1) (own := [("each", 2)]) (g := gName 2) rfl sc_least_premises.nd rfl rfl (sw_true rfl rfl rfl (by decide +kernel)) (pi_sq (pv 0)) (blkOk_by (N := N_least_premises) (sc := defScope (top 34)) (by decide +kernel)) (fun _ _ _ _ _ => (pg_name (i := 2) sc_least_premises.nd rfl (by first | exact Or.inl rfl | exact Or.inr rfl))) (fun _ _ _ _ _ => (pts_one (pt_not (pt_val (pe_callB (show CallR _ _ (rAny K) from cr_any (by rfl)) (by rfl) T.b_any (by decide +kernel) (pa_cons (pe_lc (own := [("other", 3)]) (g := gName 3) (tt := tYes) rfl sc_least_premises.nd (pi_sqK K rfl (pv 0)) (blkOk_by (N := N_least_premises) (sc := ({ kind := .function, names := [(".0", .local), ("each", .cell), ("any", .globalImplicit), ("premises", .cell)], isGenerator := false, isCoroutine := false } : Scope)) (by decide +kernel)) (fun _ _ _ _ _ => (pg_name (i := 3) sc_least_premises.nd rfl (by first | exact Or.inl rfl | exact Or.inr rfl))) (fun _ _ _ _ _ => pts_nil) (fun _ _ _ _ _ => (pe_and (pe_cmpR (show OpR _ (compareOp .NotEq) (rNeD K) from op_neD (Nat.lt_of_succ_lt hun)) (pv 3) (pv 2) (nomark _)) (pe_one (pe_gd (gk_is_within T) (hr.mono (by decide)) rfl T.g_is_within pass0 (pa_cons (pv 3) (pa_cons (pv 2) pa_nil))))))) pa_nil)))))) (fun _ _ _ _ _ => (pv 2)))
      (pss_one (ps_ret (pe_gd (gk_lot_ofP T) (hr.mono (by decide)) rfl T.g_lot_of pass0 (pa_cons (pv 1) pa_nil)))))), ?_⟩)
  rintro a bx X sb pre hE
  show WS K bx X H _ [some _, none, none, none] _ _ _ _
  obtain ⟨hc, few1⟩ := pre
  replace hc : ∀ p ∈ a, can3 p := hc
  replace few1 : a.length < 64 := few1
  refine ws_seq (ws_own (wf_lc (wi_sq (w_var rfl ⟨_, a.map pmD, rfl, rfl, few (Nat.le_of_lt few1), Pm, a, pmD, fun e => !a.any fun o => decide (o ≠ e) && withinB o e, pmD, rfl, fun e he => wg_name (by decide) (wt_not (wt_b (w_any (wa_cons (w_of_wf (wf_map (wi_sq (w_var rfl ⟨_, a.map pmD, rfl, rfl, few (Nat.le_of_lt few1), Pm, a, pmD, fun o => .bool (decide (o ≠ e) && withinB o e), rfl, fun o ho => wg_name (by decide) ?_, wa_nil ⟨a.map fun o => decide (o ≠ e) && withinB o e, ?_, _, rfl, ?_, fun _ => w_var rfl rfl⟩⟩)))))))), ?_⟩))))
  · refine w_andV (w_neD (w_var rfl (w_var rfl ⟨_, _, rfl, rfl, pm_shaped o, pm_shaped e, _, rfl, fun c => ?_, fun c => ?_⟩)))
    · rw [eqv_pm] at c
      have ne : o ≠ e := by simpa using c
      refine w_callF (wa_cons (w_var rfl (wa_cons (w_var rfl (wa_nil ⟨(o, e), rfl, rfl, hc o ho, ?_⟩)))))
      show some (PyData.bool (withinB o e)) = some (PyData.bool (decide (o ≠ e) && withinB o e))
      rw [decide_eq_true ne]
      rfl
    · rw [eqv_pm] at c
      have eq : o = e := by simpa using c
      show some (PyData.bool false) = some (PyData.bool (decide (o ≠ e) && withinB o e))
      rw [decide_eq_false (fun z => z eq)]
      rfl
  · rw [List.map_map]
    rfl
  · rw [List.any_map]
    rfl
  · intro D hD
    refine ws_frz (i := 1) rfl (only1 rfl) (ws_ret sb (w_callF (wa_cons (w_var rfl (wa_nil ⟨(.list ((leastL a).map pmD), leastL a), rfl, rfl, ⟨rfl, ?_⟩, rfl, rfl⟩)))))
    have := List.length_filter_le (fun e => !a.any fun o => decide (o ≠ e) && withinB o e) a
    show (leastL a).length < 64
    unfold leastL
    omega
theorem gk_least_premises (T : Tx K mg) : Gd P w K mg base CX0 3 "least_premises" ["premises"] [] f_least_premises := by
  obtain ⟨fd, F⟩ := T.F_least_premises
  exact ⟨fd, [], fk_least_premises T F, ⟨.nil, F.bindsN fun _ _ _ _ _ _ us hl => match us, hl with | [_], _ => rfl⟩, F.kp⟩
structure Plain (n : Nat) (p : Pm) : Prop where
  s1 : p.1.Pairwise (· < ·)
  s2 : p.2.Pairwise (· < ·)
  b1 : ∀ x ∈ p.1, 1 ≤ x ∧ x ≤ n
  b2 : ∀ x ∈ p.2, 1 ≤ x ∧ x ≤ n
theorem Plain.can {n : Nat} {p : Pm} (h : Plain n p) (n3 : n ≤ 3) : can3 p := ⟨⟨h.s1, fun x hx => by have := h.b1 x hx; omega⟩, h.s2, fun x hx => by have := h.b2 x hx; omega⟩
theorem Plain.bd {n : Nat} {p : Pm} (h : Plain n p) : ∀ x ∈ p.1 ++ p.2, 1 ≤ x ∧ x ≤ (n : Int) := fun x hx => by
  rcases List.mem_append.mp hx with hx | hx
  · exact h.b1 x hx
  · exact h.b2 x hx
theorem Plain.up {n : Nat} {p : Pm} (h : Plain n p) : Plain (n + 1) p := ⟨h.s1, h.s2, fun x hx => by have := h.b1 x hx; omega, fun x hx => by have := h.b2 x hx; omega⟩
theorem side_up {n : Nat} {l : List Int} (h1 : l.Pairwise (· < ·)) (h2 : ∀ x ∈ l, 1 ≤ x ∧ x ≤ (n : Int)) : (l ++ [((n + 1 : Nat) : Int)]).Pairwise (· < ·) ∧ ∀ x ∈ l ++ [((n + 1 : Nat) : Int)], 1 ≤ x ∧ x ≤ ((n + 1 : Nat) : Int) := by
  refine ⟨List.pairwise_append.mpr ⟨h1, List.pairwise_singleton _ _, fun a ha b hb => ?_⟩, fun x hx => ?_⟩
  · rw [List.mem_singleton.mp hb]
    have := h2 a ha
    omega
  · rcases List.mem_append.mp hx with z | z
    · have := h2 x z
      omega
    · rw [List.mem_singleton.mp z]
      omega
theorem plainL_is : ∀ n, ∀ p ∈ plainL n, Plain n p
  | 0, p, h => by
    rw [List.mem_singleton.mp h]
    exact ⟨.nil, .nil, (fun _ h => nomatch h), (fun _ h => nomatch h)⟩
  | n + 1, p, h => by
    rcases List.mem_append.mp h with h | h
    · rcases List.mem_append.mp h with h | h
      · exact (plainL_is n p h).up
      · obtain ⟨q, hq, rfl⟩ := List.mem_map.mp h
        have z := plainL_is n q hq
        obtain ⟨u, v⟩ := side_up z.s1 z.b1
        exact ⟨u, z.s2, v, z.up.b2⟩
    · obtain ⟨q, hq, rfl⟩ := List.mem_map.mp h
      have z := plainL_is n q hq
      obtain ⟨u, v⟩ := side_up z.s2 z.b2
      exact ⟨z.s1, u, z.up.b1, v⟩
/-- the prime premises of these rows -/
noncomputable def primeL (n : Nat) (rows : List (List Int)) : List Pm := sortP (leastL ((plainL n).filter fun e => rows.all fun r => holdB r e))
def seqO (b : Bool) (ds : List PyData) : PyData := if b then .list ds else .tuple ds
theorem seqO_seq (b : Bool) (ds : List PyData) : seq? (.d (seqO b ds)) = some ds := by cases b <;> rfl
noncomputable def f_prime_of_rows : FnA (Nat × List (List Int) × Bool) := fnF (fun a => [.d (.int (a.1 : Nat)), .d (seqO a.2.2 (a.2.1.map rowD))]) (fun a => a.1 ≤ 3 ∧ (∀ r ∈ a.2.1, r.length = a.1) ∧ a.2.1.length ≤ 1000) (fun a => .d (.tuple ((primeL a.1 a.2.1).map pmD)))
def N_prime_of_rows : List Str := ["places", "rows", "each", "row"]
theorem sc_prime_of_rows : FnScope N_prime_of_rows ["places", "rows"] (defScope (top 48)) := ⟨rfl, rfl, rfl, by decide +kernel, rfl, by decide +kernel, by decide +kernel⟩
theorem fk_prime_of_rows (T : Tx K mg) {fd : FuncData} (F : FnP K "_prime_of_rows" 48 [] (He.ga K "_prime_of_rows") fd) : FnOk P w K mg base CX0 4 (He.ga K "_prime_of_rows") fd ["places", "rows"] (spA K f_prime_of_rows) := by
  refine fnA_ok F sc_prime_of_rows (fun _ => rfl) (fun cdv A ou s H E hr => ⟨_, (PSs.nox (pss_one (ps_ret (pe_gd (gk_least_premises T) (hr.mono (by decide)) rfl T.g_least_premises pass0 (pa_cons (pe_lc (own := [("each", 2)]) (g := gName 2) rfl sc_prime_of_rows.nd (pi_sq (pe_gd (gk_plain_premises T) (hr.mono (by decide)) rfl T.g_plain_premises pass0 (pa_cons (pv 0) pa_nil))) (blkOk_by (N := N_prime_of_rows) (sc := defScope (top 48)) (by decide +kernel)) (fun _ _ _ _ _ => (pg_name (i := 2) sc_prime_of_rows.nd rfl (by first | exact Or.inl rfl | exact Or.inr rfl))) (fun _ _ _ _ _ => (pts_one (pt_val (pe_callB (show CallR _ _ (rAll K) from cr_all (by rfl)) (by rfl) T.b_all (by decide +kernel) (pa_cons (pe_lc (own := [("row", 3)]) (g := gName 3) (tt := tYes) rfl sc_prime_of_rows.nd (pi_sqK K rfl (pv 1)) (blkOk_by (N := N_prime_of_rows) (sc := ({ kind := .function, names := [(".0", .local), ("each", .cell), ("all", .globalImplicit), ("rows", .cell)], isGenerator := false, isCoroutine := false } : Scope)) (by decide +kernel)) (fun _ _ _ _ _ => (pg_name (i := 3) sc_prime_of_rows.nd rfl (by first | exact Or.inl rfl | exact Or.inr rfl))) (fun _ _ _ _ _ => pts_nil) (fun _ _ _ _ _ => (pe_gd (gk_holds_in T) (hr.mono (by decide)) rfl T.g_holds_in pass0 (pa_cons (pv 2) (pa_cons (pv 3) pa_nil))))) pa_nil))))) (fun _ _ _ _ _ => (pv 2))) pa_nil))))), ?_⟩)
  rintro a bx X sb pre hE
  show WS K bx X H _ [some _, some _, none, none] _ _ _ _
  obtain ⟨n, rows, b⟩ := a
  obtain ⟨n3, hr3, lr⟩ := pre
  replace n3 : n ≤ 3 := n3
  replace lr : rows.length ≤ 1000 := lr
  have lp : (plainL n).length ≤ 27 := by
    rw [plainL_len]
    exact Nat.le_trans (Nat.pow_le_pow_right (by decide) n3) (by decide)
  refine ws_ret sb (w_callF (wa_cons (w_of_wf (wf_lc (wi_sq (w_call (wa_cons (w_var rfl (wa_nil ⟨n, rfl, rfl, n3, fun x hx => ?_, fun e he => False.elim he⟩)))))))))
  have hx' : x = .ls ((plainL n).map pmD) := hx
  subst hx'
  refine ⟨_, _, rfl, rfl, few lp, Pm, plainL n, pmD, fun e => rows.all fun r => holdB r e, pmD, rfl, fun e he => wg_name (by decide) (wt_b (w_all (wa_cons (w_of_wf (wf_map (wi_sq (w_var rfl ⟨_, rows.map rowD, rfl, seqO_seq b _, few lr, List Int, rows, rowD, fun r => .bool (holdB r e), rfl, fun r hr4 => wg_name (by decide) ?_, wa_nil ⟨rows.map fun r => holdB r e, ?_, _, rfl, ?_, fun _ => w_var rfl rfl⟩⟩))))))), ?_⟩
  · have pl := plainL_is n e he
    have fe := plainL_few n e he
    refine w_callF (wa_cons (w_var rfl (wa_cons (w_var rfl (wa_nil ⟨(e, r), rfl, rfl, ⟨?_, ?_, ?_⟩, rfl⟩)))))
    · show ∀ x ∈ e.1 ++ e.2, 1 ≤ x ∧ x ≤ (r.length : Int)
      rw [hr3 r hr4]
      exact pl.bd
    · show e.1.length ≤ 100
      omega
    · show e.2.length ≤ 100
      omega
  · rw [List.map_map]
    rfl
  · rw [List.all_map]
    rfl
  · refine wa_nil ⟨(plainL n).filter fun e => rows.all fun r => holdB r e, rfl, rfl, ⟨fun p hp => (plainL_is n p ((List.mem_filter.mp hp).1)).can n3, ?_⟩, rfl, rfl⟩
    have := List.length_filter_le (fun e => rows.all fun r => holdB r e) (plainL n)
    omega
theorem gk_prime_of_rows (T : Tx K mg) : Gd P w K mg base CX0 4 "_prime_of_rows" ["places", "rows"] [] f_prime_of_rows := by
  obtain ⟨fd, F⟩ := T.F__prime_of_rows
  exact ⟨fd, [], fk_prime_of_rows T F, ⟨.nil, F.bindsN fun _ _ _ _ _ _ us hl => match us, hl with | [_, _], _ => rfl⟩, F.kp⟩
def wakeL (n : Nat) (ps : List Pm) : List (List Int) := (rowsL n).filter fun r => ps.all (holdB r)
theorem wakeL_len (n : Nat) (ps : List Pm) : ∀ r ∈ wakeL n ps, r.length = n := fun r h => (rowsL_row n r ((List.mem_filter.mp h).1)).1
theorem wakeL_few {n : Nat} (h : n ≤ 3) (ps : List Pm) : (wakeL n ps).length ≤ 8 := by
  refine Nat.le_trans (List.length_filter_le _ _) ?_
  rw [rowsL_len]
  exact pow2_8 h
theorem prem_bound {n : Int} {d : PyData} {p : Pm} (h : premD n d = some p) : ∀ x ∈ p.1 ++ p.2, 1 ≤ x ∧ x ≤ n := by
  have side : ∀ {x : PyData} {l : List Int}, sideD n x = some l → ∀ k ∈ ordI l, 1 ≤ k ∧ k ≤ n := by
    intro x l hl k hk
    rw [mem_ordI] at hk
    unfold sideD at hl
    cases e : itemsD x with
    | none =>
      rw [e] at hl
      cases hl
    | some es =>
      rw [e] at hl
      replace hl : (if es.all (okP n) = true then some (es.filterMap intD) else none) = some l := hl
      split at hl
      · rename_i z
        cases hl
        obtain ⟨y, hy, ey⟩ := List.mem_filterMap.mp hk
        have := List.all_eq_true.mp z y hy
        cases y with
        | int i =>
          cases ey
          simp only [okP, Bool.and_eq_true, decide_eq_true_eq] at this
          exact this.2
        | _ => cases ey
      · cases hl
  cases e : itemsD d with
  | none =>
    unfold premD at h
    rw [e] at h
    cases h
  | some ds =>
    obtain ⟨a, b, l, r, rfl, h1, h2, rfl⟩ := prem_items e h
    intro x hx
    rcases List.mem_append.mp hx with hx | hx
    · exact side h1 x hx
    · exact side h2 x hx
theorem needGo_all {n : Int} {q : Pm → Prop} (hq : ∀ d p, premD n d = some p → q p) : ∀ (ds : List PyData) (i : Nat) (ps : List Pm), needGo n i ds = .inr ps → ∀ p ∈ ps, q p
  | [], _, ps, h => by
    cases h
    intro p hp
    cases hp
  | d :: r, i, ps, h => by
    unfold needGo at h
    cases e : premD n d with
    | none =>
      rw [e] at h
      cases h
    | some p =>
      rw [e] at h
      cases e2 : needGo n (i + 1) r with
      | inl k =>
        rw [e2] at h
        cases h
      | inr qs =>
        rw [e2] at h
        cases h
        intro x hx
        rcases List.mem_cons.mp hx with rfl | hx
        · exact hq d _ e
        · exact needGo_all hq r (i + 1) qs e2 x hx
theorem need_of {n : Int} {d : PyData} {ps : List Pm} (h : needD n d = .inr ps) : ∃ ds, itemsD d = some ds ∧ needGo n 0 ds = .inr ps := by
  unfold needD at h
  cases e : itemsD d with
  | none =>
    rw [e] at h
    cases h
  | some ds =>
    rw [e] at h
    exact ⟨ds, rfl, h⟩
theorem below_int {d : PyData} {n : Int} (h : belowB d n = true) : ∃ i : Nat, d = .int (i : Nat) ∧ (i : Int) < n := by
  cases d with
  | int i =>
    have h' : (decide (0 ≤ i) && decide (i < n)) = true := h
    rw [Bool.and_eq_true, decide_eq_true_eq, decide_eq_true_eq] at h'
    exact ⟨i.toNat, by rw [Int.toNat_of_nonneg h'.1], by omega⟩
  | _ => cases h
/-- premises that are handed in for so many places -/
structure Told (n : Nat) (ps : List Pm) : Prop where
  can : ∀ p ∈ ps, can3 p
  bd : ∀ p ∈ ps, ∀ x ∈ p.1 ++ p.2, 1 ≤ x ∧ x ≤ (n : Int)
  few : ps.length ≤ 200
theorem told_of {n : Nat} (n3 : n ≤ 3) {d : PyData} {ps : List Pm} (fw : fewAll d) (h : needD n d = .inr ps) : Told n ps := by
  obtain ⟨ds, h1, h2⟩ := need_of h
  exact ⟨needGo_all (fun d p e => prem_can (by omega) e) ds 0 ps h2, needGo_all (fun d p e => prem_bound e) ds 0 ps h2, by rw [needGo_len ds 0 ps h2]; exact (fw ds h1).2⟩
theorem Told.wake {n : Nat} (n3 : n ≤ 3) {ps : List Pm} (h : Told n ps) : (∀ p ∈ ps, (∀ x ∈ p.1 ++ p.2, 1 ≤ x ∧ x ≤ (n : Int)) ∧ p.1.length ≤ 100 ∧ p.2.length ≤ 100) ∧ ps.length ≤ 200 ∧ n ≤ 3 :=
  ⟨fun p hp => ⟨h.bd p hp, by have := can_len (h.can p hp); omega, by have := can_len (h.can p hp); omega⟩, h.few, n3⟩
noncomputable def f_prime_premises (K : PySem.W.Frag) : FnA (PyData × PyData) := ⟨fun a => [.d a.1, .d a.2], fun _ a => belowB a.1 4 = true → fewAll a.2, fun a x => ∃ (n : Nat) (ps : List Pm), a.1 = .int (n : Nat) ∧ n ≤ 3 ∧ Told n ps ∧ needD n a.2 = .inr ps ∧ x = .d (.tuple ((primeL n (wakeL n ps)).map pmD)),
  fun a e => (belowB a.1 4 = false ∧ e = ⟨He.ga K "InvalidSize", [("word", .str "places")]⟩) ∨ ∃ (n : Nat) (k : Int), a.1 = .int (n : Nat) ∧ n ≤ 3 ∧ needD n a.2 = .inl k ∧ e = ⟨He.ga K "InvalidPremises", [("at", .int k)]⟩⟩
def N_prime_premises : List Str := ["places", "premises"]
theorem sc_prime_premises : FnScope N_prime_premises ["places", "premises"] (defScope (top 49)) := ⟨rfl, rfl, rfl, by decide +kernel, rfl, by decide +kernel, by decide +kernel⟩
theorem fk_prime_premises (T : Tx K mg) {fd : FuncData} (F : FnP K "prime_premises" 49 [] (He.ga K "prime_premises") fd) : FnOk P w K mg base (L2.CX P w) 5 (He.ga K "prime_premises") fd ["places", "premises"] (spA K (f_prime_premises K)) := by
  refine fnA_ok F sc_prime_premises (fun _ => rfl) (fun cdv A ou s H E hr => ⟨_, (pss_cons (ps_expr (pe_gd (E := E) (gk_need_places T) (hr.mono (by decide)) rfl T.g_need_places (passes_call (takes_of rfl rfl rfl rfl) fun _ _ _ _ z => z) (pa_cons (pv 0) pa_nil)))
      (pss_one (ps_ret (pe_gd (gk_prime_of_rows T) (hr.mono (by decide)) rfl T.g__prime_of_rows pass0 (pa_cons (pv 0) (pa_cons (pe_gd (gk_waking_rows T) (hr.mono (by decide)) rfl T.g_waking_rows pass0 (pa_cons (pe_gd (E := E) (gk_need_premises T) (hr.mono (by decide)) rfl T.g_need_premises (passes_call (takes_of rfl rfl rfl rfl) fun _ _ _ _ z => z) (pa_cons (pv 1) (pa_cons (pv 0) pa_nil))) (pa_cons (pv 0) pa_nil))) pa_nil)))))), ?_⟩)
  rintro a bx X sb pre hE
  show WS K bx X H _ [some _, some _] _ _ _ _
  obtain ⟨d, q⟩ := a
  replace pre : belowB d 4 = true → fewAll q := pre
  refine ws_seq (ws_drop (w_call (wa_cons (w_var rfl (wa_nil ⟨d, rfl, rfl, trivial, fun x hx => ?_, fun e he => hE e (.inl ⟨he.1, he.2⟩)⟩)))))
  obtain ⟨hb, _⟩ := hx
  obtain ⟨n, rfl, hn⟩ := below_int hb
  have n3 : n ≤ 3 := by omega
  have fw := pre hb
  refine ws_ret sb (w_callF (wa_cons (w_var rfl (wa_cons (w_callF (wa_cons (w_call (wa_cons (w_var rfl (wa_cons (w_var rfl (wa_nil ⟨(q, (n : Nat)), rfl, rfl, fw, fun x hx => ?_, fun e he => ?_⟩))))))))))))
  · obtain ⟨ps, hps, rfl⟩ := hx
    have T1 := told_of n3 fw hps
    refine wa_cons (w_var rfl (wa_nil ⟨(ps, n, false), rfl, rfl, T1.wake n3, wa_nil ⟨(n, wakeL n ps, false), rfl, rfl, ⟨n3, wakeL_len n ps, Nat.le_trans (wakeL_few n3 ps) (by decide)⟩, rfl, n, ps, rfl, n3, T1, hps, rfl⟩⟩))
  · obtain ⟨k, hk, rfl⟩ := he
    exact hE _ (.inr ⟨n, k, rfl, n3, hk, rfl⟩)
theorem gk_prime_premises (T : Tx K mg) : Gd P w K mg base (L2.CX P w) 5 "prime_premises" ["places", "premises"] [] (f_prime_premises K) := by
  obtain ⟨fd, F⟩ := T.F_prime_premises
  exact ⟨fd, [], fk_prime_premises T F, ⟨.nil, F.bindsN fun _ _ _ _ _ _ us hl => match us, hl with | [_, _], _ => rfl⟩, F.kp⟩
end
end K03

set_option Elab.async false
set_option linter.all false
set_option maxRecDepth 100000
set_option maxHeartbeats 4000000
/-! tuples without a dict of their own; dict(..) of such a tuple of pairs; dicts of one's own as data -/
namespace Say
open PySem PySem.Spec PyProof.Rows L2
theorem unit1 {A : Around} (h : A.units + 65 < cLine) : A.units + 1 < cLine := by omega
theorem unit64 {A : Around} (h : A.units + 65 < cLine) : A.units + 64 < cLine := by omega
/-- tuple(xs) of a list: nothing hangs on the new tuple -/
def rTupP (K : PySem.W.Frag) : List V → Hp → VK → Prop := fun xs H Q => ∃ p ys, xs = [.ref p] ∧ SqL K H p ys ∧ ∀ l o, H l = none → PlainT o → Q (.ref l) (upd H l (.frz o (.tup ys)))
theorem cr_tupP {X : Cx} : CallR X (.type "tuple") (rTupP X.K) := by
  intro pins s σ H xs us Q I r ⟨p, ys, ex, hq, q⟩
  subst ex
  obtain ⟨u, rfl, rx⟩ := vals1 r
  cases rx
  obtain ⟨its, rv, pl, hz⟩ := I.list hq
  have few : its.toArray.size ≤ sizeLine := by
    rw [List.size_toArray, ← rv.length]
    exact hz
  refine call_tuple_list pl.isList (fun h' kp => ?_) few
  have J := I.kept (t' := s.toks) kp
  have at_ : (h'.push { cls := .type "tuple", data := .seq its.toArray }).get? h'.objs.size = some { cls := .type "tuple", data := .seq its.toArray } := Heap.get?_push_size _ rfl
  have J2 := J.laid (a := h'.objs.size) (o := .frz { cls := .type "tuple", data := .seq its.toArray } (.tup ys)) (h' := h'.push { cls := .type "tuple", data := .seq its.toArray }) (t' := s.toks) (fun b o e => Heap.get?_push_of_some _ e) (Nat.le_refl _) ⟨at_, hz, its, rv, _, at_, rfl, _, rfl⟩
  exact ⟨.ref h'.objs.size, _, J2, rfl, q _ _ (J.hok.fresh (Nat.le_refl _)) ⟨rfl, rfl⟩⟩
/-- the pairs as they lie in the heap -/
theorem pairs_lie {X : Cx} {pins : List (Addr × Obj)} {σ : L2.St} {H : Hp} {s : Shared} (I : Inv X pins σ H s) {ps : List Addr} {kvs : List (Key × V)} (h : Paired (fun p kv => SqT X.K H p [kV kv.1, kv.2]) ps kvs) :
    ∃ (prs : List (Key × Value)) (pvs : List (Value × Value)), KV kvs prs ∧ prs.length = ps.length ∧ pvs.length = ps.length ∧ ∀ (j : Nat) (k v : Value), pvs[j]? = some (k, v) → (∃ b : Addr, ps[j]? = some b ∧ IsTup s.heap b #[k, v]) ∧ ∃ c : Key, prs[j]? = some (c, v) ∧ (mixKind X.prog X.w).is c k = true := by
  induction h with
  | nil => exact ⟨[], [], .nil, rfl, rfl, fun j k v e => by simp at e⟩
  | cons h0 t ih =>
    rename_i p kv ps kvs
    obtain ⟨prs, pvs, r1, l1, l2, g⟩ := ih
    obtain ⟨its, rv, tu, _⟩ := I.tuple h0
    obtain ⟨u, y, ei, ru, ry⟩ := vals2 rv
    subst ei
    refine ⟨(kv.1, y) :: prs, (u, y) :: pvs, .cons ⟨rfl, ry⟩ r1, congrArg Nat.succ l1, congrArg Nat.succ l2, fun j k v e => ?_⟩
    cases j with
    | zero =>
      cases e
      exact ⟨⟨p, rfl, tu⟩, kv.1, rfl, kV_is ru⟩
    | succ j => exact g j k v e
/-- dict(xs) of such a tuple of pairs (key, value) -/
def rDictT (K : PySem.W.Frag) : List V → Hp → VK → Prop := fun xs H Q => ∃ (a : Addr) (o : Obj) (ps : List Addr) (kvs : List (Key × V)), xs = [.ref a] ∧ H a = some (.frz o (.tup (ps.map V.ref))) ∧ PlainT o ∧ Paired (fun p kv => SqT K H p [kV kv.1, kv.2]) ps kvs ∧
  ∀ p, H p = none → Q (.ref p) (upd H p (.dK (mergeK [] kvs)))
theorem cr_dictT {X : Cx} (calm : X.calm = true) : CallR X (.type "dict") (rDictT X.K) := by
  intro pins s σ H xs us Q I r ⟨a, o, ps, kvs, ex, ha, ⟨pc, pd⟩, hp, q⟩
  subst ex
  obtain ⟨u, rfl, rx⟩ := vals1 r
  cases rx
  obtain ⟨ho, hz, its, rv, o2, ho2, hc, n, hd⟩ := I.hok a _ ha
  rw [ho] at ho2
  cases ho2
  have ei := refs_at rv
  subst ei
  rw [List.length_map] at hz
  obtain ⟨prs, pvs, rel, l1, l2, g⟩ := pairs_lie I hp
  have ok : PlainSeq "tuple" s.heap a (ps.map Value.ref).toArray ∧ PairItems s.heap (ps.map Value.ref).toArray (fun j => ps.getD j 0) pvs := by
    refine ⟨⟨o, n, ho, pc, pd, hd⟩, by rw [List.size_toArray, List.length_map, l2], fun j k v e => ?_⟩
    obtain ⟨⟨b, eb, tb⟩, _⟩ := g j k v e
    have gd : ps.getD j 0 = b := by rw [List.getD_eq_getElem?_getD, eb]; rfl
    refine ⟨?_, .inl ?_⟩
    · show _ = some (Value.ref (ps.getD j 0))
      rw [List.getElem?_toArray, List.getElem?_map, eb, gd]
      rfl
    · show IsTup s.heap (ps.getD j 0) _
      rw [gd]
      exact tb
  refine PySem.call_dict_pairs (knd := mixKind X.prog X.w) (PairArg.tuple a _ _ pvs) (I.ok.hd calm) ok ⟨l1.trans l2.symm, fun j k v e => (g j k v e).2⟩ (by rw [l2]; exact hz) fun h' tk dd keep => ?_
  have big : (s.heap.objs.size == sysModules) = false := beq_eq_false_iff_ne.mpr (Nat.ne_of_gt I.big)
  have few : (mergeK [] kvs).length ≤ sizeLine := by
    have z := length_mergeK kvs []
    rw [List.length_nil, Nat.zero_add, rel.length, l1] at z
    exact Nat.le_trans z hz
  exact ⟨.ref s.heap.objs.size, _, I.laid (t' := tk) (fun b ob e => keep b ob (by simp) e) (Nat.le_refl _) (show ObjOk X.prog X.w _ _ _ (.dK (mergeK [] kvs)) from ⟨few, big, _, KV.merge rel .nil, dd⟩), rfl, q _ (I.hok.fresh (Nat.le_refl _))⟩
/-! ### dicts as data -/
def kD : Key → PyData
  | .inl i => .int i
  | .inr x => .str x
theorem kD_kV {K : PySem.W.Frag} {H : Hp} {v : V} {k : Key} (h : Dp K H v (kD k)) : v = kV k := by
  cases k <;> (cases h; rfl)
def getM (kvs : List (Key × PyData)) (k : Key) : Option PyData := (kvs.find? fun p => decide (p.1 = k)).map (·.2)
def putM (kvs : List (Key × PyData)) (k : Key) (d : PyData) : List (Key × PyData) := if (kvs.any fun p => decide (p.1 = k)) = true then kvs.map (fun p => if p.1 = k then (p.1, d) else p) else kvs ++ [(k, d)]
section
variable {K : PySem.W.Frag} {H : Hp}
theorem zip_get' {k : Key} : ∀ {kvs : List (Key × PyData)} {us : List V}, DpAll K H us (kvs.map (·.2)) → (∀ d, getM kvs k = some d → ∃ v, valV ((kvs.map (·.1)).zip us) k = some v ∧ Dp K H v d) ∧ (getM kvs k = none → valV ((kvs.map (·.1)).zip us) k = none)
  | [], us, h => ⟨fun d e => (by cases e), fun _ => (by cases h; rfl)⟩
  | p :: r, us, h => by
    cases h with
    | cons h1 h2 =>
      rename_i v vs
      obtain ⟨i1, i2⟩ := zip_get' (k := k) h2
      by_cases c : p.1 = k
      · have g : getM (p :: r) k = some p.2 := by simp [getM, List.find?_cons, c]
        have z : valV (((p :: r).map (·.1)).zip (v :: vs)) k = some v := valV_pos (p := (p.1, v)) c
        refine ⟨fun d e => ?_, fun e => ?_⟩
        · rw [g] at e
          cases e
          exact ⟨v, z, h1⟩
        · rw [g] at e
          cases e
      · have g : getM (p :: r) k = getM r k := by simp [getM, List.find?_cons, c]
        have z : valV (((p :: r).map (·.1)).zip (v :: vs)) k = valV ((r.map (·.1)).zip vs) k := by
          show valV ((p.1, v) :: ((r.map (·.1)).zip vs)) k = _
          simp [valV, List.find?_cons, c]
        rw [g, z]
        exact ⟨i1, i2⟩
theorem zip_any {k : Key} : ∀ {kvs : List (Key × PyData)} {us : List V}, us.length = kvs.length → (((kvs.map (·.1)).zip us).any fun p => decide (p.1 = k)) = kvs.any fun p => decide (p.1 = k)
  | [], us, _ => by simp
  | p :: r, [], h => by cases h
  | p :: r, v :: vs, h => by
    show (decide (p.1 = k) || (((r.map (·.1)).zip vs).any fun p => decide (p.1 = k))) = (decide (p.1 = k) || _)
    rw [zip_any (by simpa using h)]
theorem zip_put {k : Key} {v : V} {d : PyData} {kvs : List (Key × PyData)} {us : List V} (h : DpAll K H us (kvs.map (·.2))) (hv : Dp K H v d) :
    ∃ us', putK ((kvs.map (·.1)).zip us) k v = ((putM kvs k d).map (·.1)).zip us' ∧ DpAll K H us' ((putM kvs k d).map (·.2)) := by
  have l := dpAll_len h
  rw [List.length_map] at l
  unfold putK putM
  rw [zip_any l]
  split
  · have go : ∀ {kvs : List (Key × PyData)} {us : List V}, DpAll K H us (kvs.map (·.2)) → ∃ us', (((kvs.map (·.1)).zip us).map fun kv => if kv.1 = k then (kv.1, v) else kv) = ((kvs.map fun p => if p.1 = k then (p.1, d) else p).map (·.1)).zip us' ∧ DpAll K H us' ((kvs.map fun p => if p.1 = k then (p.1, d) else p).map (·.2)) := by
      intro kvs
      induction kvs with
      | nil =>
        intro us h
        cases h
        exact ⟨[], rfl, .nil⟩
      | cons p r ih =>
        intro us h
        cases h with
        | cons h1 h2 =>
          rename_i u vs
          obtain ⟨us', e1, e2⟩ := ih h2
          by_cases c : p.1 = k
          · refine ⟨v :: us', ?_, ?_⟩
            · show (if p.1 = k then (p.1, v) else (p.1, u)) :: (((r.map (·.1)).zip vs).map fun kv => if kv.1 = k then (kv.1, v) else kv) = ((if p.1 = k then (p.1, d) else p).1, v) :: ((r.map fun p => if p.1 = k then (p.1, d) else p).map (·.1)).zip us'
              rw [if_pos c, if_pos c, e1]
            · show DpAll K H (v :: us') ((if p.1 = k then (p.1, d) else p).2 :: _)
              rw [if_pos c]
              exact .cons hv e2
          · refine ⟨u :: us', ?_, ?_⟩
            · show (if p.1 = k then (p.1, v) else (p.1, u)) :: (((r.map (·.1)).zip vs).map fun kv => if kv.1 = k then (kv.1, v) else kv) = ((if p.1 = k then (p.1, d) else p).1, u) :: ((r.map fun p => if p.1 = k then (p.1, d) else p).map (·.1)).zip us'
              rw [if_neg c, if_neg c, e1]
            · show DpAll K H (u :: us') ((if p.1 = k then (p.1, d) else p).2 :: _)
              rw [if_neg c]
              exact .cons h1 e2
    exact go h
  · refine ⟨us ++ [v], ?_, ?_⟩
    · rw [List.map_append, List.zip_append (by rw [List.length_map, l])]
      rfl
    · rw [List.map_append]
      exact dpAll_app h (.cons hv .nil)
end
/-- the pairs, where it is a dict -/
def kvs? : Dat → Option (List (Key × PyData))
  | .m _ kvs => some kvs
  | .fm kvs => some kvs
  | _ => none
theorem da_kvs {K : PySem.W.Frag} {bx X : Addr → Prop} {H : Hp} {v : V} {x : Dat} {kvs : List (Key × PyData)} (h : DaOk K bx X H v x) (e : kvs? x = some kvs) : ∃ (D : Addr) (us : List V), v = .ref D ∧ H D = some (.dK ((kvs.map (·.1)).zip us)) ∧ DpAll K (core X H) us (kvs.map (·.2)) := by
  cases x with
  | m D l =>
    have e' : l = kvs := Option.some.inj e
    subst e'
    obtain ⟨rfl, _, _, us, h1, h2⟩ := da_m h
    exact ⟨D, us, rfl, h1, h2⟩
  | fm l =>
    have e' : l = kvs := Option.some.inj e
    subst e'
    obtain ⟨D, us, rfl, h1, h2⟩ := da_fm h
    exact ⟨D, us, rfl, core_le _ _ h1, h2⟩
  | _ => cases e
section
variable {K : PySem.W.Frag} {bx X0 : Addr → Prop} {H0 : Hp} {ρ : Rho} {N : Rho → Prop} {R : Dat → Prop} {B C : Rho → Prop} {Φ : Dat → Prop}
/-- k in d -/
theorem w_din {a b : TE} (h : W K bx X0 H0 a ρ fun x => W K bx X0 H0 b ρ fun y => ∃ k kvs, x = .d (kD k) ∧ kvs? y = some kvs ∧ Φ (.d (.bool (getM kvs k).isSome))) : W K bx X0 H0 (tDIn a b) ρ Φ := fun X H σ e Q q =>
  h X H σ e _ fun v x H1 f1 d1 q1 => q1 X H1 σ (e.go f1) _ fun u y H2 f2 d2 ⟨k, kvs, e1, e2, q2⟩ => by
    subst e1
    obtain ⟨D, us, rfl, h5, h6⟩ := da_kvs d2 e2
    have ev := kD_kV (da_d d1)
    subst ev
    obtain ⟨i1, i2⟩ := zip_get' (k := k) h6
    refine ⟨D, _, rfl, DGet.k h5, ?_⟩
    have es : (valV ((kvs.map (·.1)).zip us) k).isSome = (getM kvs k).isSome := by
      cases g : getM kvs k with
      | none => rw [i2 g]; rfl
      | some d =>
        obtain ⟨v, z, _⟩ := i1 d g
        rw [z]
        rfl
    rw [es]
    exact q _ _ H2 (f1.trans f2) (ok_d (.bl _)) q2
theorem w_dnin {a b : TE} (h : W K bx X0 H0 a ρ fun x => W K bx X0 H0 b ρ fun y => ∃ k kvs, x = .d (kD k) ∧ kvs? y = some kvs ∧ Φ (.d (.bool (!(getM kvs k).isSome)))) : W K bx X0 H0 (tDNotIn a b) ρ Φ := fun X H σ e Q q =>
  h X H σ e _ fun v x H1 f1 d1 q1 => q1 X H1 σ (e.go f1) _ fun u y H2 f2 d2 ⟨k, kvs, e1, e2, q2⟩ => by
    subst e1
    obtain ⟨D, us, rfl, h5, h6⟩ := da_kvs d2 e2
    have ev := kD_kV (da_d d1)
    subst ev
    obtain ⟨i1, i2⟩ := zip_get' (k := k) h6
    refine ⟨D, _, rfl, DGet.k h5, ?_⟩
    have es : (valV ((kvs.map (·.1)).zip us) k).isSome = (getM kvs k).isSome := by
      cases g : getM kvs k with
      | none => rw [i2 g]; rfl
      | some d =>
        obtain ⟨v, z, _⟩ := i1 d g
        rw [z]
        rfl
    rw [es]
    exact q _ _ H2 (f1.trans f2) (ok_d (.bl _)) q2
/-- d[k] -/
theorem w_dget {a b : TE} (h : W K bx X0 H0 a ρ fun x => W K bx X0 H0 b ρ fun y => ∃ k kvs d, kvs? x = some kvs ∧ y = .d (kD k) ∧ getM kvs k = some d ∧ Φ (.d d)) : W K bx X0 H0 (tDGet a b) ρ Φ := fun X H σ e Q q =>
  h X H σ e _ fun v x H1 f1 d1 q1 => q1 X H1 σ (e.go f1) _ fun u y H2 f2 d2 ⟨k, kvs, d, e1, e2, g, q2⟩ => by
    subst e2
    obtain ⟨D, us, rfl, h5, h6⟩ := da_kvs (da_fr f2 e.sub d1) e1
    have ev := kD_kV (da_d d2)
    subst ev
    obtain ⟨w, z, dw⟩ := (zip_get' (k := k) h6).1 d g
    refine ⟨D, w, rfl, by rw [← z]; exact DGet.k h5, q _ _ H2 (f1.trans f2) (ok_d dw) q2⟩
/-- a new dict that may still change -/
theorem sx_own {Z : Hp} {X : Addr → Prop} {H H1 : Hp} {σ : L2.St} {i : Nat} {D : Addr} {kvs : List (Key × PyData)} {us : List V} (s : Sx K bx X0 H0 Z X H σ ρ) (f : Fr bx H H1) (n : H D = none) (a : H1 D = some (.dK ((kvs.map (·.1)).zip us))) (d : DpAll K (core (fun b => X b ∨ b = D) H1) us (kvs.map (·.2))) :
    Sx K bx X0 H0 Z (fun b => X b ∨ b = D) H1 (σ.set i (some (.ref D))) (ρ.set i (some (.m D kvs))) := by
  have nX : ¬ X D := s.toEnX.no n
  have n0 : H0 D = none := s.fr.free n
  have c := core_new f s.sub n
  have mu : isMut (.dK ((kvs.map (·.1)).zip us)) := ⟨fun _ h => (by cases h), fun _ _ h => (by cases h), fun _ h => (by cases h)⟩
  have e2 : En K bx X0 H0 (fun b => X b ∨ b = D) H1 σ ρ := by
    refine ⟨⟨fun b z => .inl (s.sub b z), fun b z => z.elim (fun z => (s.toEnX.go f).mu b z) fun z => by rw [z]; exact ⟨_, a, mu⟩, fun b z => f.bo b z (s.bo b z), fun b z => .inl (s.s0 b z), s.fr.trans f⟩, s.len, fun i x h => ?_⟩
    obtain ⟨v, h1, h2⟩ := s.at_ i x h
    refine ⟨v, h1, ?_⟩
    cases x with
    | d x => exact dp_mono c _ _ (da_d h2)
    | v x => exact h2
    | ls xs =>
      obtain ⟨a, vs, rfl, h3, h4⟩ := da_ls h2
      exact ⟨a, vs, rfl, c _ _ h3, dpAll_mono c _ _ h4⟩
    | pt xs =>
      obtain ⟨a, o, vs, rfl, h3, h4, h5⟩ := da_pt h2
      exact ⟨a, o, vs, rfl, c _ _ h3, h4, dpAll_mono c _ _ h5⟩
    | fm xs =>
      obtain ⟨a, vs, rfl, h3, h4⟩ := da_fm h2
      exact ⟨a, vs, rfl, c _ _ h3, dpAll_mono c _ _ h4⟩
    | fi C fs =>
      obtain ⟨a, dx, vs, rfl, h3, h4⟩ := da_fi h2
      exact ⟨a, dx, vs, rfl, c _ _ h3, fdAll_mono c h4⟩
    | i D2 C fs =>
      obtain ⟨rfl, h3, h4, dx, vs, h5, h6⟩ := da_i h2
      exact ⟨rfl, .inl h3, h4, dx, vs, f.kp _ _ h4 (fun ps z => by cases z) h5, fdAll_mono c h6⟩
    | o D2 xs =>
      obtain ⟨rfl, h3, h4, vs, h5, h6⟩ := da_o h2
      exact ⟨rfl, .inl h3, h4, vs, f.kp _ _ h4 (fun ps z => by cases z) h5, dpAll_mono c _ _ h6⟩
    | m D2 xs =>
      obtain ⟨rfl, h3, h4, vs, h5, h6⟩ := da_m h2
      exact ⟨rfl, .inl h3, h4, vs, f.kp _ _ h4 (fun ps z => by cases z) h5, dpAll_mono c _ _ h6⟩
    | s P => exact fun H2 s => h2 H2 (same_tr c s)
  refine ⟨e2.set (x := .m D kvs) ⟨rfl, .inr rfl, fun z => nX (s.sub D z), us, a, d⟩, fun b z => z.elim (s.nw b) fun z => by rw [z]; exact .inr n0, s.d0, fun j y z D2 hD2 => ?_, same_tr s.kz c⟩
  by_cases c : j = i
  · subst c
    rw [List.getElem?_set, if_pos rfl] at z
    split at z
    · cases z
      cases hD2
      exact n0
    · cases z
  · rw [List.getElem?_set_ne (Ne.symm c)] at z
    exact s.ow j y z D2 hD2
theorem ws_dnew {i : Nat} (h : ∀ D, N (ρ.set i (some (.m D [])))) : WS K bx X0 H0 (tAsg tDNewK (gName i)) ρ N R B C :=
  ⟨fun Z X H σ s Dd d1 _ _ _ => fun p n => d1 _ _ _ _ (h p) (sx_own (us := []) s (.of (same_new n)) n upd_same .nil)⟩
/-- d = dict(xs) of a plain tuple of pairs -/
def pairD (p : Key × PyData) : PyData := .tuple [kD p.1, p.2]
def mergeM (kvs : List (Key × PyData)) : List (Key × PyData) := kvs.foldl (fun acc p => putM acc p.1 p.2) []
theorem refs_pairs {H : Hp} : ∀ {us : List V} {kvs : List (Key × PyData)}, DpAll K H us (kvs.map pairD) → ∃ (ps : List Addr) (kv : List (Key × V)), us = ps.map V.ref ∧ Paired (fun p kv => SqT K H p [kV kv.1, kv.2]) ps kv ∧ kv.map (·.1) = kvs.map (·.1) ∧ DpAll K H (kv.map (·.2)) (kvs.map (·.2))
  | _, [], h => by
    cases h
    exact ⟨[], [], rfl, .nil, rfl, .nil⟩
  | _, p :: r, h => by
    cases h with
    | cons h1 h2 =>
      obtain ⟨ps, kv, e1, e2, e3, e4⟩ := refs_pairs h2
      cases h1 with
      | tup t1 t2 =>
        cases t2 with
        | cons a1 a2 =>
          cases a2 with
          | cons b1 b2 =>
            cases b2
            have := kD_kV a1
            subst this
            refine ⟨_ :: ps, (p.1, _) :: kv, by rw [e1]; rfl, .cons t1 e2, by rw [List.map_cons, List.map_cons, e3], .cons b1 e4⟩
theorem pairs_up {H H' : Hp} (g : Same H H') {ps : List Addr} {kv : List (Key × V)} (h : Paired (fun p kv => SqT K H p [kV kv.1, kv.2]) ps kv) : Paired (fun p kv => SqT K H' p [kV kv.1, kv.2]) ps kv := by
  induction h with
  | nil => exact .nil
  | cons a b ih => exact .cons (grow_sqT (grow_same g) a) ih
theorem zip_self {α β : Type} : ∀ l : List (α × β), (l.map (·.1)).zip (l.map (·.2)) = l
  | [] => rfl
  | p :: r => by
    show (p.1, p.2) :: (r.map (·.1)).zip (r.map (·.2)) = _
    rw [zip_self r]
theorem merge_zip {H : Hp} : ∀ {kv : List (Key × V)} {kvs acc : List (Key × PyData)} {us : List V}, kv.map (·.1) = kvs.map (·.1) → DpAll K H (kv.map (·.2)) (kvs.map (·.2)) → DpAll K H us (acc.map (·.2)) →
    ∃ us', mergeK ((acc.map (·.1)).zip us) kv = ((kvs.foldl (fun acc p => putM acc p.1 p.2) acc).map (·.1)).zip us' ∧ DpAll K H us' ((kvs.foldl (fun acc p => putM acc p.1 p.2) acc).map (·.2))
  | [], [], acc, us, _, _, h => ⟨us, rfl, h⟩
  | [], _ :: _, _, _, e, _, _ => by cases e
  | _ :: _, [], _, _, e, _, _ => by cases e
  | a :: kv, p :: kvs, acc, us, e, d, h => by
    cases d with
    | cons d1 d2 =>
      have e1 : a.1 = p.1 := (List.cons.inj e).1
      obtain ⟨us', z1, z2⟩ := zip_put (k := p.1) h d1
      obtain ⟨us2, y1, y2⟩ := merge_zip (acc := putM acc p.1 p.2) (us := us') (List.cons.inj e).2 d2 z2
      refine ⟨us2, ?_, y2⟩
      show mergeK (putK _ a.1 a.2) kv = _
      rw [e1, z1]
      exact y1
theorem w_dict {t : TA} (h : WA K bx X0 H0 t ρ fun xs => ∃ kvs, xs = [.pt (kvs.map pairD)] ∧ Φ (.fm (mergeM kvs))) : W K bx X0 H0 (tCB (rDictT K) t) ρ Φ := fun X H σ e Q k =>
  h X H σ e _ fun vs xs H1 f d ⟨kvs, e1, q⟩ => by
    subst e1
    obtain ⟨v, rfl, d2⟩ := da1 d
    obtain ⟨a, o, us, rfl, h1, h2, h3⟩ := da_pt d2
    obtain ⟨ps, kv, rfl, e2, e3, e4⟩ := refs_pairs h3
    have E2 := e.toEnX.go f
    refine ⟨a, o, ps, kv, rfl, core_le _ _ h1, h2, pairs_up core_le e2, fun p n => ?_⟩
    obtain ⟨us', z1, z2⟩ := merge_zip (acc := []) (us := []) e3 e4 .nil
    have z1' : mergeK [] kv = ((mergeM kvs).map (·.1)).zip us' := z1
    rw [z1']
    exact k _ (.fm (mergeM kvs)) _ (f.new n) ⟨p, us', rfl, core_of (E2.no n) upd_same fun ps z => (by cases z), dpAll_mono (core_fr (bx := bx) (.of (same_new n)) e.sub) _ _ z2⟩ q
theorem w_cT {a : Addr} {bs : List Str} (h : ∀ H, SqT K H a (bs.map V.str)) (q : Φ (.d (.tuple (bs.map PyData.str)))) : W K bx X0 H0 (tC (.ref a)) ρ Φ := fun X H σ e Q k => k _ _ H (.refl H) (ok_d (.tup (h _) (by
    have go : ∀ {H : Hp} (bs : List Str), DpAll K H (bs.map V.str) (bs.map PyData.str) := by
      intro H bs
      induction bs with
      | nil => exact .nil
      | cons b bs ih => exact .cons (.str b) ih
    exact go bs))) q
/-- d[k] = v -/
theorem ws_dput {i : Nat} {D : Addr} {kvs : List (Key × PyData)} {tk tv : TE} (hi : ρ[i]? = some (some (.m D kvs))) (hu : (ρ.set i none).all (fun e => !dO e) = true) (few : kvs.length < 100000)
    (h : W K bx X0 H0 tv ρ fun y => W K bx X0 H0 tk ρ fun x => ∃ k d, x = .d (kD k) ∧ dat? y = some d ∧ N (ρ.set i (some (.m D (putM kvs k d))))) : WS K bx X0 H0 (sDPut (tVar i) tk tv) ρ N R B C :=
  ⟨fun Z X H σ s Dd d1 _ _ _ => h X H σ s.toEn _ fun u y H1 f1 dy q1 => by
    have s1 := s.go' f1
    obtain ⟨v, g1, g2⟩ := s1.at_ i _ hi
    obtain ⟨rfl, h3, h4, us, h5, h6⟩ := da_m g2
    refine ⟨_, g1, q1 X H1 σ s1.toEn _ fun v x H2 f2 dx ⟨k, d, e1, e2, q⟩ => ?_⟩
    subst e1
    have ev := kD_kV (da_d dx)
    subst ev
    have s2 := s1.go' f2
    obtain ⟨v2, g3, g4⟩ := s2.at_ i _ hi
    obtain ⟨_, _, _, us2, h7, h8⟩ := da_m g4
    have l8 := dpAll_len h8
    rw [List.length_map] at l8
    obtain ⟨us', z1, z2⟩ := zip_put (k := k) h8 (da_dp (da_fr f2 s.sub dy) e2)
    have big : 100000 ≤ sizeLine := by decide
    refine ⟨D, _, rfl, DPut.k h7 (by rw [List.length_zip, List.length_map, l8]; omega), ?_⟩
    rw [z1]
    have n0 := s.ow i _ hi D rfl
    have mu : isMut (.dK (((putM kvs k d).map (·.1)).zip us')) := ⟨fun _ h => (by cases h), fun _ _ h => (by cases h), fun _ h => (by cases h)⟩
    generalize ho : HO.dK (((putM kvs k d).map (·.1)).zip us') = ob at mu
    have cu : core X (upd H2 D ob) = core X H2 := core_upd h3
    have only : ∀ (j : Nat) (y : Dat), j ≠ i → ρ[j]? = some (some y) → isO y = false := fun j y n e => by
      have m : some y ∈ ρ.set i none := List.mem_of_getElem? (i := j) (by rw [List.getElem?_set_ne (Ne.symm n)]; exact e)
      have := List.all_eq_true.mp hu _ m
      simpa [dO] using this
    refine d1 _ X _ σ q ⟨⟨⟨s.sub, fun b z => ?_, fun b z => ?_, s.s0, s2.fr.upd n0 h4 (nc_dK h7)⟩, by rw [List.length_set]; exact s.len, fun j x hj => ?_⟩, s.nw, s.d0, fun j y z D2 hD2 => ?_, by rw [cu]; exact s2.kz⟩
    · by_cases z2 : b = D
      · rw [z2, upd_same]
        exact ⟨_, rfl, mu⟩
      · rw [upd_ne z2]
        exact s2.mu b z
    · obtain ⟨x, y, z2, q⟩ := s2.bo b z
      exact ⟨x, y, z2, by rw [upd_ne (fun z3 => h4 (by rw [← z3]; exact z))]; exact q⟩
    · by_cases e : j = i
      · subst e
        rw [List.getElem?_set, if_pos rfl] at hj
        split at hj
        · cases hj
          exact ⟨_, g3, (by
            have := (s2.at_ _ _ hi)
            obtain ⟨v3, _, g5⟩ := this
            have e3 : v2 = .ref D := (da_m g4).1
            exact e3), h3, h4, us', by rw [upd_same, ho], by rw [cu]; exact z2⟩
        · cases hj
      · rw [List.getElem?_set_ne (Ne.symm e)] at hj
        have no := only j x e hj
        obtain ⟨u3, g5, g6⟩ := s2.at_ j x hj
        refine ⟨u3, g5, ?_⟩
        cases x with
        | d x =>
          show Dp K (core _ _) u3 x
          rw [cu]
          exact da_d g6
        | v x => exact g6
        | ls xs =>
          obtain ⟨a, us, rfl, k1, k2⟩ := da_ls g6
          exact ⟨a, us, rfl, by rw [cu]; exact k1, by rw [cu]; exact k2⟩
        | pt zs =>
          obtain ⟨a, o, us, rfl, k1, k2, k3⟩ := da_pt g6
          exact ⟨a, o, us, rfl, by rw [cu]; exact k1, k2, by rw [cu]; exact k3⟩
        | fm zs =>
          obtain ⟨a, us, rfl, k1, k2⟩ := da_fm g6
          exact ⟨a, us, rfl, by rw [cu]; exact k1, by rw [cu]; exact k2⟩
        | fi C fs =>
          obtain ⟨a, dx, us, rfl, k1, k2⟩ := da_fi g6
          exact ⟨a, dx, us, rfl, by rw [cu]; exact k1, by rw [cu]; exact k2⟩
        | i D2 C fs => cases no
        | o D2 zs => cases no
        | m D2 zs => cases no
        | s P =>
          intro H3 s3
          rw [cu] at s3
          exact g6 H3 s3
    · by_cases e : j = i
      · subst e
        rw [List.getElem?_set, if_pos rfl] at z
        split at z
        · cases z
          cases hD2
          exact n0
        · cases z
      · rw [List.getElem?_set_ne (Ne.symm e)] at z
        exact s.ow j y z D2 hD2⟩
/-- tuple(xs) of a list, nothing hangs on it -/
theorem w_tupP {t : TA} (h : WA K bx X0 H0 t ρ fun xs => ∃ x ys, xs = [x] ∧ x = .ls ys ∧ Φ (.pt ys)) : W K bx X0 H0 (tCB (rTupP K) t) ρ Φ :=
  w_cb fun X H σ e Q k => h X H σ e Q fun vs xs H' f d ⟨x, ys, e1, e2, q⟩ => k vs xs H' f d fun X H E vs da Q k2 => by
    subst e1 e2
    obtain ⟨v, rfl, d1⟩ := da1 da
    obtain ⟨a, us, rfl, h1, h2⟩ := da_ls d1
    refine ⟨a, us, rfl, SqL.of (core_le _ _ h1), fun l o n po => k2 _ (.pt ys) _ (.of (same_new n)) ⟨l, o, us, rfl, core_of (E.no n) upd_same fun ps z => (by cases z), po, dpAll_mono (core_fr (bx := bx) (.of (same_new n)) E.sub) _ _ h2⟩ q⟩
end
end Say

set_option Elab.async false
set_option linter.all false
set_option maxRecDepth 100000
set_option maxHeartbeats 4000000
/-! instances as data: fields, methods, new ones -/
namespace Say
universe u
open PySem PySem.Spec PyProof.Rows L2
def Fd.dat : Fd → Dat
  | .d x => .d x
  | .pt xs => .pt xs
def fd? : Dat → Option Fd
  | .d x => some (.d x)
  | .pt xs => some (.pt xs)
  | _ => none
def putFd (f : Str) (y : Fd) : List (Str × Fd) → List (Str × Fd)
  | [] => [(f, y)]
  | (g, x) :: r => if g = f then (g, y) :: r else (g, x) :: putFd f y r
section
variable {K : PySem.W.Frag} {bx X : Addr → Prop} {H : Hp}
theorem fd_ok {v : V} : ∀ {y : Fd}, FdOk K (core X H) v y → DaOk K bx X H v y.dat
  | .d x, h => ok_d h
  | .pt xs, h => h
theorem ok_fd {v : V} {x : Dat} {y : Fd} (h : DaOk K bx X H v x) (e : fd? x = some y) : FdOk K (core X H) v y := by
  cases x with
  | d x =>
    cases e
    exact da_d h
  | pt xs =>
    cases e
    exact da_pt h
  | _ => cases e
theorem fdAll_get {C : Hp} {f : Str} : ∀ {vs : List (Str × V)} {fs : List (Str × Fd)} {y : Fd}, FdAll K C vs fs → fs.lookup f = some y → ∃ v, vs.lookup f = some v ∧ FdOk K C v y
  | _, _, _, .nil, e => by cases e
  | _, _, y, .cons (n := n) a b, e => by
    by_cases c : f = n
    · subst c
      rw [List.lookup_cons_self] at e ⊢
      cases e
      exact ⟨_, rfl, a⟩
    · have nb : (f == n) = false := by simpa using c
      rw [List.lookup_cons, nb] at e ⊢
      exact fdAll_get b e
theorem fdAll_no {C : Hp} {f : Str} : ∀ {vs : List (Str × V)} {fs : List (Str × Fd)}, FdAll K C vs fs → fs.lookup f = none → vs.lookup f = none
  | _, _, .nil, _ => rfl
  | _, _, .cons (n := n) a b, e => by
    by_cases c : f = n
    · subst c
      rw [List.lookup_cons_self] at e
      cases e
    · have nb : (f == n) = false := by simpa using c
      rw [List.lookup_cons, nb] at e ⊢
      exact fdAll_no b e
theorem fdAll_len {C : Hp} : ∀ {vs : List (Str × V)} {fs : List (Str × Fd)}, FdAll K C vs fs → vs.length = fs.length
  | _, _, .nil => rfl
  | _, _, .cons _ b => congrArg Nat.succ (fdAll_len b)
theorem fdAll_put {C : Hp} {f : Str} {v : V} {y : Fd} (h : FdOk K C v y) : ∀ {vs : List (Str × V)} {fs : List (Str × Fd)}, FdAll K C vs fs → FdAll K C (putF f v vs) (putFd f y fs)
  | _, _, .nil => .cons h .nil
  | _, _, .cons (n := n) a b => by
    unfold putF putFd
    by_cases c : n = f
    · rw [if_pos c, if_pos c]
      exact .cons h b
    · rw [if_neg c, if_neg c]
      exact .cons a (fdAll_put h b)
/-- the class and the fields -/
def ins? : Dat → Option (Addr × List (Str × Fd))
  | .fi C fs => some (C, fs)
  | .i _ C fs => some (C, fs)
  | _ => none
theorem da_ins {v : V} {x : Dat} {C : Addr} {fs : List (Str × Fd)} (h : DaOk K bx X H v x) (e : ins? x = some (C, fs)) : ∃ (a dx : Addr) (vs : List (Str × V)), v = .ref a ∧ H a = some (.ins C dx vs) ∧ FdAll K (core X H) vs fs := by
  cases x with
  | fi D l =>
    cases e
    obtain ⟨a, dx, vs, rfl, h1, h2⟩ := da_fi h
    exact ⟨a, dx, vs, rfl, core_le _ _ h1, h2⟩
  | i D D' l =>
    cases e
    obtain ⟨rfl, _, _, dx, vs, h1, h2⟩ := da_i h
    exact ⟨D, dx, vs, rfl, h1, h2⟩
  | _ => cases e
end
theorem pe_fldK {X : Cx} {e : Expr} {f : Str} {pos : Pos} {ta : TE} (K : PySem.W.Frag) (hK : X.K = K) (he : PE X e ta) (hb : attributeBase e f X.env (eval e X.env) = eval e X.env) : PE X (.Attribute e f pos) (tFld K ta f) := hK ▸ pe_fld he hb
section
variable {K : PySem.W.Frag} {bx X0 : Addr → Prop} {H0 : Hp} {ρ : Rho} {N : Rho → Prop} {R : Dat → Prop} {B C : Rho → Prop} {Φ : Dat → Prop}
theorem w_fld {t : TE} {f : Str} {Ca : Addr} (c : Cls K Ca) (n : NoAttr K Ca f) (h : W K bx X0 H0 t ρ fun x => ∃ fs y, ins? x = some (Ca, fs) ∧ fs.lookup f = some y ∧ Φ y.dat) : W K bx X0 H0 (tFld K t f) ρ Φ := fun X H σ e Q k =>
  h X H σ e _ fun v x H1 f1 d ⟨fs, y, e1, e2, q⟩ => by
    obtain ⟨a, dx, vs, rfl, h1, h2⟩ := da_ins d e1
    obtain ⟨w, h3, h4⟩ := fdAll_get h2 e2
    exact ⟨a, Ca, dx, vs, w, rfl, h1, c, n, h3, k w y.dat H1 f1 (fd_ok h4) q⟩
/-- isinstance(x, C), C an own class -/
theorem w_isiC {t : TE} {Ca : Addr} (yes : ∀ (H : Hp) (a dx : Addr) (fs : List (Str × V)), H a = some (.ins Ca dx fs) → TyX K H (.ref a) (.ref Ca)) (no : ∀ T ∈ ["NoneType", "bool", "int", "str", "list", "tuple"], PySem.W.kitOne K (.type T) (.ref Ca) = some false)
    (h : W K bx X0 H0 t ρ fun x => (∃ fs, ins? x = some (Ca, fs) ∧ Φ (.d (.bool true))) ∨ ∃ y, dat? x = some y ∧ Φ (.d (.bool false))) : W K bx X0 H0 (tCB (rIsi K) (tCons t (tCons (tC (.ref Ca)) tNil))) ρ Φ := fun X H σ e Q k =>
  h X H σ e _ fun v x H1 f d q => by
    rcases q with ⟨fs, e1, q⟩ | ⟨y, e1, q⟩
    · obtain ⟨a, dx, vs, rfl, h1, h2⟩ := da_ins d e1
      exact ⟨.ref a, .ref Ca, .ref Ca, .ref Ca, true, rfl, .own Ca, yes _ a dx vs h1, by unfold PySem.W.kitOne; simp, k _ _ H1 f (ok_d (.bl true)) q⟩
    · have dp := dp_mono core_le _ _ (da_dp d e1)
      refine ⟨v, .ref Ca, _, .ref Ca, false, rfl, .own Ca, kind_of dp, no _ ?_, k _ _ H1 f (ok_d (.bl false)) q⟩
      cases dp <;> simp [kind]
/-- the state behind a change of an own instance -/
theorem Sx.chgI {Z : Hp} {X : Addr → Prop} {H : Hp} {σ : L2.St} {i : Nat} {D Ca dx : Addr} {fs gs : List (Str × Fd)} {us : List (Str × V)} (s : Sx K bx X0 H0 Z X H σ ρ) (hi : ρ[i]? = some (some (.i D Ca fs))) (hu : ∀ (j : Nat) (Cb : Addr) (ys : List (Str × Fd)), j ≠ i → ρ[j]? ≠ some (some (.i D Cb ys)))
    (d : FdAll K (core X H) us gs) : Sx K bx X0 H0 Z X (upd H D (.ins Ca dx us)) σ (ρ.set i (some (.i D Ca gs))) := by
  obtain ⟨v, h1, h2⟩ := s.at_ i _ hi
  obtain ⟨rfl, h3, h4, dx0, vs, h5, h6⟩ := da_i h2
  have n0 := s.ow i _ hi D rfl
  have cu : core X (upd H D (.ins Ca dx us)) = core X H := core_upd h3
  have mu : isMut (.ins Ca dx us) := ⟨fun _ h => (by cases h), fun _ _ h => (by cases h), fun _ h => (by cases h)⟩
  refine ⟨⟨⟨s.sub, fun b z => ?_, fun b z => ?_, s.s0, s.fr.upd n0 h4 (nc_ins h5)⟩, by rw [List.length_set]; exact s.len, fun j x hj => ?_⟩, s.nw, s.d0, fun j y z D2 hD2 => ?_, by rw [cu]; exact s.kz⟩
  · by_cases z2 : b = D
    · rw [z2, upd_same]
      exact ⟨_, rfl, mu⟩
    · rw [upd_ne z2]
      exact s.mu b z
  · obtain ⟨x, y, z2, q⟩ := s.bo b z
    exact ⟨x, y, z2, by rw [upd_ne (fun z3 => h4 (by rw [← z3]; exact z))]; exact q⟩
  · by_cases e : j = i
    · subst e
      rw [List.getElem?_set, if_pos rfl] at hj
      split at hj
      · cases hj
        exact ⟨_, h1, rfl, h3, h4, dx, us, upd_same, by rw [cu]; exact d⟩
      · cases hj
    · rw [List.getElem?_set_ne (Ne.symm e)] at hj
      obtain ⟨u, g1, g2⟩ := s.at_ j x hj
      refine ⟨u, g1, ?_⟩
      cases x with
      | d x =>
        show Dp K (core _ _) u x
        rw [cu]
        exact da_d g2
      | v x => exact g2
      | ls xs =>
        obtain ⟨a, us, rfl, k1, k2⟩ := da_ls g2
        exact ⟨a, us, rfl, by rw [cu]; exact k1, by rw [cu]; exact k2⟩
      | pt zs =>
        obtain ⟨a, o, us, rfl, k1, k2, k3⟩ := da_pt g2
        exact ⟨a, o, us, rfl, by rw [cu]; exact k1, k2, by rw [cu]; exact k3⟩
      | fm zs =>
        obtain ⟨a, us, rfl, k1, k2⟩ := da_fm g2
        exact ⟨a, us, rfl, by rw [cu]; exact k1, by rw [cu]; exact k2⟩
      | fi Cb fs =>
        obtain ⟨a, dx, us, rfl, k1, k2⟩ := da_fi g2
        exact ⟨a, dx, us, rfl, by rw [cu]; exact k1, by rw [cu]; exact k2⟩
      | i D2 Cb fs =>
        obtain ⟨rfl, k1, k2, dx, us, k3, k4⟩ := da_i g2
        have nd : D2 ≠ D := fun q => hu j Cb fs e (by rw [← q]; exact hj)
        exact ⟨rfl, k1, k2, dx, us, by rw [upd_ne nd]; exact k3, by rw [cu]; exact k4⟩
      | m D2 zs =>
        obtain ⟨rfl, k1, k2, us, k3, k4⟩ := da_m g2
        have nd : D2 ≠ D := fun q => by
          rw [q, h5] at k3
          cases k3
        exact ⟨rfl, k1, k2, us, by rw [upd_ne nd]; exact k3, by rw [cu]; exact k4⟩
      | o D2 zs =>
        obtain ⟨rfl, k1, k2, us, k3, k4⟩ := da_o g2
        have nd : D2 ≠ D := fun q => by
          rw [q, h5] at k3
          cases k3
        exact ⟨rfl, k1, k2, us, by rw [upd_ne nd]; exact k3, by rw [cu]; exact k4⟩
      | s P =>
        intro H2 s2
        rw [cu] at s2
        exact g2 H2 s2
  · by_cases e : j = i
    · subst e
      rw [List.getElem?_set, if_pos rfl] at z
      split at z
      · cases z
        cases hD2
        exact n0
      · cases z
    · rw [List.getElem?_set_ne (Ne.symm e)] at z
      exact s.ow j y z D2 hD2
/-- self.f = e, self an own instance in slot i; no other own instance is held -/
theorem ws_fld {i : Nat} {D Ca : Addr} {fs : List (Str × Fd)} {tv : TE} {f : Str} (c : Cls K Ca) (n : NoAttr K Ca f) (hi : ρ[i]? = some (some (.i D Ca fs))) (hu : ∀ (j : Nat) (Cb : Addr) (ys : List (Str × Fd)), j ≠ i → ρ[j]? ≠ some (some (.i D Cb ys))) (few : fs.length < 900)
    (h : W K bx X0 H0 tv ρ fun x => ∃ y, fd? x = some y ∧ N (ρ.set i (some (.i D Ca (putFd f y fs))))) : WS K bx X0 H0 (sFld K (tVar i) tv f) ρ N R B C :=
  ⟨fun Z X H σ s Dd d1 _ _ _ => h X H σ s.toEn _ fun v x H1 f1 d ⟨y, e1, q⟩ => by
    have s1 := s.go' f1
    obtain ⟨u, g1, g2⟩ := s1.at_ i _ hi
    obtain ⟨rfl, h3, h4, dx, vs, h5, h6⟩ := da_i g2
    refine ⟨_, g1, D, Ca, dx, vs, rfl, h5, c, n, by rw [fdAll_len h6]; omega, ?_⟩
    exact d1 _ X _ σ q (s1.chgI hi hu (fdAll_put (ok_fd d e1) h6))⟩
end
/-- a method that keeps its promise -/
def GmS (P : Program) (w : World) (K : PySem.W.Frag) (mg : Str → Option Value) (base : Heap) (CX : CXT) (k : Nat) (C : Addr) (m : Str) (ps : List Str) (sp : Sp) : Prop := ∃ fd, FnOk P w K mg base CX k (He.ma K C m) fd ps sp ∧ Binds K fd ps []
theorem pe_gm {X : Cx} {CX : CXT} {k : Nat} {C : Addr} {m : Str} {ps : List Str} {sp : Sp} {E : XK} {o e : Expr} {es : List Expr} {ta : TE} {t : TA} {pos apos : Pos} {pl : Sem Bool} (h : GmS X.prog X.w X.K X.mg X.base CX k C m ps sp) (hr : Room k X.A) (c : Cls X.K C) (hm : Meth X.K C m (He.ma X.K C m)) (he : PE X o ta) (hx : Passes CX X E) (ha : PA X (e :: es) t)
    (hst : starEach (e :: es) X.env = (false, eval e X.env) :: starEach es X.env := by rfl) (hpl : (backTo pos (starEach es X.env)).any (·.1) = false := by rfl)
    (ht : eval (.Call (.Attribute o m apos) (e :: es) [] pos) X.env = (do
      let ov ← eval o X.env
      standAt apos.atName
      let (f, first) ← holding [ov] (getMethod ov m pl)
      callWith pos f first (backTo pos (starEach (e :: es) X.env)) (backToKw pos (keywordEach [] X.env))) := by rfl) :
    PE X (.Call (.Attribute o m apos) (e :: es) [] pos) (tMeth C m sp [] E ta t) := by
  obtain ⟨fd, F, b⟩ := h
  exact pe_meth he c hm F hr b .nil hx ha hst hpl ht
theorem pe_gi {X : Cx} {CX : CXT} {k : Nat} {x : Str} {ps : List Str} {sp : Sp} {E : XK} {e : Expr} {es : List Expr} {t : TA} {p pos : Pos} (h : GmS X.prog X.w X.K X.mg X.base CX k (He.ga X.K x) "__init__" ps sp) (hr : Room (k + 1) X.A) (hg : Gl X x) (hm : X.mg x = some (.ref (He.ga X.K x))) (M : Mk X.K (He.ga X.K x) (He.ma X.K (He.ga X.K x) "__init__")) (hx : Passes CX X E)
    (ha : PA X (e :: es) t) (hdb : (x == ("__debug__" : Str)) = false := by decide) (he : starEach (e :: es) X.env = (false, eval e X.env) :: starEach es X.env := by rfl) (hpl : (backTo pos (starEach es X.env)).any (·.1) = false := by rfl) :
    PE X (.Call (.Name x p) (e :: es) [] pos) (tMake (He.ga X.K x) sp [] E t) := by
  obtain ⟨fd, F, b⟩ := h
  exact pe_make M F hr hg hm b .nil hx ha hdb he hpl
/-! ### new instances -/
/-- the promise of an __init__: told of the heap ahead of the new instance -/
def spI {α : Type u} (K : PySem.W.Frag) (Ca : Addr) (f : FnA α) (fs : α → List (Str × Fd)) : Sp := fun vs H Q E => ∃ (a : α) (bx X : Addr → Prop) (H1 : Hp) (x dx : Addr) (ws : List V), vs = .ref x :: ws ∧ H1 x = none ∧ H1 dx = none ∧ dx ≠ x ∧ H = upd (upd H1 dx (.own x)) x (.ins Ca dx []) ∧
  EnX bx X H1 X H1 ∧ DaAll K bx X H1 ws (f.args a) ∧ (∀ y ∈ f.args a, isO y = false) ∧ f.pre bx a ∧ (∀ H', Fr bx H1 H' → DaOk K bx X H' (.ref x) (.fi Ca (fs a)) → Q .non H') ∧ ∀ e, f.exn a e → GivesE K bx X H1 E e
theorem daAll_same {K : PySem.W.Frag} {bx X Y : Addr → Prop} {H H' : Hp} (c : Same (core X H) (core Y H')) : ∀ {v : V} {x : Dat}, isO x = false → DaOk K bx X H v x → DaOk K bx Y H' v x
  | v, .d x, _, e => dp_mono c _ _ (da_d e)
  | v, .v x, _, e => e
  | v, .ls xs, _, e => let ⟨a, vs, e1, e2, e3⟩ := da_ls e; ⟨a, vs, e1, c _ _ e2, dpAll_mono c _ _ e3⟩
  | v, .pt xs, _, e => let ⟨a, o, vs, e1, e2, e3, e4⟩ := da_pt e; ⟨a, o, vs, e1, c _ _ e2, e3, dpAll_mono c _ _ e4⟩
  | v, .fm kvs, _, e => let ⟨a, vs, e1, e2, e3⟩ := da_fm e; ⟨a, vs, e1, c _ _ e2, dpAll_mono c _ _ e3⟩
  | v, .fi C fs, _, e => let ⟨a, dx, vs, e1, e2, e3⟩ := da_fi e; ⟨a, dx, vs, e1, c _ _ e2, fdAll_mono c e3⟩
  | v, .s P, _, e => fun H2 s => e H2 (same_tr c s)
section
variable {P : Program} {w : World} {K : PySem.W.Frag} {mg : Str → Option Value} {base : Heap} {x qual : Str} {params : Arguments} {body : List Stmt} {scope : Scope} {dvs : List V} {kws : List (Str × V)} {f : Addr} {fd : FuncData}
/-- THE RULE for an __init__ told by data: its body ends with the instance in slot 0 -/
theorem iniA_ok {α : Type u} {CX : CXT} {N ps : List Str} {k : Nat} {Ca : Addr} {g : FnA α} {fs : α → List (Str × Fd)} (F : FunD K x qual params body scope dvs kws f fd) (S : FnScope N ps scope) (hl : ∀ a, (g.args a).length + 1 = ps.length)
    (hb : ∀ (cdv : Value) (A : Around) (outer : List Env) (s : Shared) (H : Hp) (E : XK), Room k (A.deeper (envOfC qual scope s.heap.objs.size f cdv)) →
      ∃ t, PSs (cxOf CX P w K mg base N qual scope f cdv A outer s H E) body t ∧ ∀ (a : α) (bx X : Addr → Prop) (H1 : Hp) (D : Addr), (∀ b, bx b → X b) → g.pre bx a → (∀ e, g.exn a e → GivesE K bx X H1 E e) →
        WS K bx X H1 t (start0 (.i D Ca [] :: g.args a) (N.length - ps.length)) (fun ρ => ρ[0]? = some (some (.i D Ca (fs a)))) (fun _ => False) (fun _ => False) (fun _ => False)) : FnOk P w K mg base CX (k + 1) f fd ps (spI K Ca g fs) := by
  refine F.ok S (fun vs H Q E h => ?_) fun cdv A ou s H vs Q E hr h => ?_
  · obtain ⟨a, bx, X, H1, x, dx, ws, rfl, _, _, _, _, _, d, _⟩ := h
    rw [List.length_cons, daAll_len d, hl a]
  · obtain ⟨t, h1, h2⟩ := hb cdv A ou s H E hr
    refine ⟨t, h1, ?_⟩
    obtain ⟨a, bx, X, H1, x, dx, ws, rfl, n1, n2, ne, rfl, e, d, o, p, q, qe⟩ := h
    have sm : Same H1 (upd (upd H1 dx (.own x)) x (.ins Ca dx [])) := fun b u z => by
      rw [upd_ne (ne_of_none z n1), upd_ne (ne_of_none z n2)]
      exact z
    have fr : Fr bx H1 (upd (upd H1 dx (.own x)) x (.ins Ca dx [])) := .of sm
    have nX : ¬ X x := e.no n1
    have nb : ¬ bx x := fun z => nX (e.sub x z)
    have cc : Same (core X H1) (core (fun b => X b ∨ b = x) (upd (upd H1 dx (.own x)) x (.ins Ca dx []))) := core_new fr e.sub n1
    have mu : isMut (.ins Ca dx []) := ⟨fun _ h => (by cases h), fun _ _ h => (by cases h), fun _ h => (by cases h)⟩
    have l := daAll_len d
    have self : DaOk K bx (fun b => X b ∨ b = x) (upd (upd H1 dx (.own x)) x (.ins Ca dx [])) (.ref x) (.i x Ca []) := ⟨rfl, .inr rfl, nb, dx, [], upd_same, .nil⟩
    have at0 : ∀ (i : Nat) (y : Dat), (start0 (.i x Ca [] :: g.args a) (N.length - ps.length))[i]? = some (some y) → (i = 0 ∧ y = .i x Ca []) ∨ ∃ j, i = j + 1 ∧ (g.args a)[j]? = some y := by
      intro i y hy
      unfold start0 at hy
      rw [List.getElem?_append] at hy
      split at hy
      · rw [List.getElem?_map] at hy
        cases i with
        | zero =>
          cases hy
          exact .inl ⟨rfl, rfl⟩
        | succ j =>
          refine .inr ⟨j, rfl, ?_⟩
          rw [List.getElem?_cons_succ] at hy
          cases e1 : (g.args a)[j]? with
          | none =>
            rw [e1] at hy
            cases hy
          | some z =>
            rw [e1] at hy
            cases hy
            rfl
      · exact absurd hy nones_get
    have sx : Sx K bx X H1 (core X H1) (fun b => X b ∨ b = x) (upd (upd H1 dx (.own x)) x (.ins Ca dx [])) (L2.start N (.ref x :: ws)) (start0 (.i x Ca [] :: g.args a) (N.length - ps.length)) := by
      refine ⟨⟨⟨fun b z => .inl (e.sub b z), fun b z => z.elim (fun z => (e.go fr).mu b z) fun z => by rw [z]; exact ⟨_, upd_same, mu⟩, fun b z => fr.bo b z (e.bo b z), fun b z => .inl z, fr⟩, ?_, fun i y hy => ?_⟩, fun b z => z.elim .inl fun z => by rw [z]; exact .inr n1, e.dm, fun i y hy D hD => ?_, cc⟩
      · have hla := hl a
        have e1 : (L2.start N (.ref x :: ws)).length = (V.ref x :: ws).length + (N.length - (V.ref x :: ws).length) := by
          unfold L2.start
          rw [List.length_append, List.length_map, List.length_replicate]
        have e2 : (start0 (.i x Ca [] :: g.args a) (N.length - ps.length)).length = (g.args a).length + 1 + (N.length - ps.length) := by
          unfold start0
          rw [List.length_append, List.length_map, List.length_replicate, List.length_cons]
        rw [e1, e2, List.length_cons, l, hla]
      · rcases at0 i y hy with ⟨rfl, rfl⟩ | ⟨j, rfl, hj⟩
        · exact ⟨.ref x, rfl, self⟩
        · obtain ⟨v, g1, g2⟩ := daAll_get d hj
          have lj : j < ws.length := (List.getElem?_eq_some_iff.mp g1).1
          refine ⟨v, ?_, daAll_same cc (o y (List.mem_of_getElem? hj)) g2⟩
          unfold L2.start
          rw [List.getElem?_append, if_pos (by rw [List.length_map, List.length_cons]; omega), List.getElem?_map, List.getElem?_cons_succ, g1]
          rfl
      · rcases at0 i y hy with ⟨rfl, rfl⟩ | ⟨j, rfl, hj⟩
        · cases hD
          exact n1
        · have := o y (List.mem_of_getElem? hj)
          rw [isO_own hD] at this
          cases this
    refine (h2 a bx X H1 x e.sub p qe).run (core X H1) _ _ _ sx _ (fun ρ' X' H' σ' hN s' => ?_) (fun y v H' hR _ _ => hR.elim) (fun _ _ _ _ z => z.elim) (fun _ _ _ _ z => z.elim)
    obtain ⟨v, g1, g2⟩ := s'.at_ 0 _ hN
    obtain ⟨rfl, k1, k2, dx2, vs, k3, k4⟩ := da_i g2
    exact q H' s'.fr ⟨x, dx2, vs, rfl, core_of nX k3 fun ps z => (by cases z), fdAll_mono (core_sub s'.s0) k4⟩
end
section
variable {K : PySem.W.Frag} {bx X0 : Addr → Prop} {H0 : Hp} {ρ : Rho} {Φ : Dat → Prop}
/-- C(..) -/
theorem w_make {α : Type u} {Ca : Addr} {g : FnA α} {fs : α → List (Str × Fd)} {E : XK} {t : TA} (h : WA K bx X0 H0 t ρ fun xs => ∃ a, xs.map normD = g.args a ∧ noO xs = true ∧ g.pre bx a ∧ Φ (.fi Ca (fs a)) ∧ ∀ e, g.exn a e → GivesE K bx X0 H0 E e) : W K bx X0 H0 (tMake Ca (spI K Ca g fs) [] E t) ρ Φ := fun X H σ e Q k =>
  h X H σ e _ fun vs xs H1 f d ⟨a, e1, o, p, q, qe⟩ => fun x dx n1 n2 ne => by
    have e2 := e.toEnX.go f
    refine ⟨a, bx, X, H1, x, dx, vs, by rw [List.append_nil], n1, n2, ne, rfl, ⟨e2.sub, e2.mu, e2.bo, fun _ z => z, .refl H1⟩, by rw [← e1]; exact norms_ok d, fun y hy => ?_, p, fun H2 f2 dv => ⟨rfl, k _ _ H2 (f.trans f2) dv q⟩, fun ex he H2 dd vs2 f2 dv hd => qe ex he H2 dd vs2 (e2.fr.trans f2) (dpAll_mono (core_sub e.s0) _ _ dv) hd⟩
    rw [← e1] at hy
    obtain ⟨z, hz, rfl⟩ := List.mem_map.mp hy
    exact norm_o (noO_mem o z hz)
/-- x.m(..) -/
theorem w_meth {α : Type u} {Ca : Addr} {m : Str} {g : FnA α} {dvs : List V} {E : XK} {ta : TE} {t : TA} (h : W K bx X0 H0 ta ρ fun x => ∃ fs, ins? x = some (Ca, fs) ∧ isO x = false ∧ fs.lookup m = none ∧ WA K bx X0 H0 t ρ fun xs => ∃ a, x :: (xs.map normD ++ dvs.map cDat) = g.args a ∧ noO xs = true ∧ g.pre bx a ∧ (∀ y, g.post a y → Φ y) ∧ ∀ e, g.exn a e → GivesE K bx X0 H0 E e) :
    W K bx X0 H0 (tMeth Ca m (spA K g) dvs E ta t) ρ Φ := fun X H σ e Q k =>
  h X H σ e _ fun v x H1 f1 d1 ⟨fs, i1, ox, lm, q1⟩ => by
    obtain ⟨a, dx, vs, rfl, h1, h2⟩ := da_ins d1 i1
    refine ⟨a, dx, vs, rfl, h1, fdAll_no h2 lm, q1 X H1 σ (e.go f1) _ fun us xs H2 f2 d2 ⟨b, e1, o, p, q, qe⟩ => ?_⟩
    have e2 := (e.toEnX.go f1).go f2
    refine ⟨b, bx, X, ⟨e2.sub, e2.mu, e2.bo, fun _ z => z, .refl H2⟩, by rw [← e1]; exact .cons (da_fr f2 e.sub d1) (daAll_app (norms_ok d2) (cDats dvs)), fun y hy => ?_, p, fun y hy v H3 f3 dv => k v y H3 (f1.trans (f2.trans f3)) dv (q y hy), fun ex he H3 dd vs2 f3 dv hd => qe ex he H3 dd vs2 (e2.fr.trans f3) (dpAll_mono (core_sub e.s0) _ _ dv) hd⟩
    rw [← e1] at hy
    rcases List.mem_cons.mp hy with rfl | hy
    · exact ox
    · rcases List.mem_append.mp hy with z | z
      · obtain ⟨y2, hy2, rfl⟩ := List.mem_map.mp z
        exact norm_o (noO_mem o y2 hy2)
      · obtain ⟨v, _, rfl⟩ := List.mem_map.mp z
        exact cDat_o v
end
end Say

set_option Elab.async false
set_option linter.all false
set_option maxRecDepth 100000
set_option maxHeartbeats 4000000
/-! mathematics of books: names, makers, rules -/
namespace Say
open PySem PySem.Spec PyProof.Rows L2
open PySem.W (alike alikeAll)
def letB (s : Str) : Bool := !(Builtin.Str.occurrences ("abcdefghijklmnopqrstuvwxyz" : Str) s 0 ("abcdefghijklmnopqrstuvwxyz" : Str).length 1).isEmpty
def nameS (z : Str) : Bool := decide ((1 : Int) ≤ (z.length : Nat)) && decide (((z.length : Nat) : Int) ≤ 8) && z.cps.toList.all fun c => letB ⟨#[c]⟩
def nameB : PyData → Bool
  | .str z => nameS z
  | _ => false
def mkD (m : Str × Nat) : PyData := .tuple [.str m.1, .int (m.2 : Nat)]
/-- a maker as it is handed in -/
def mkOk (m : Str × Nat) : Prop := nameS m.1 = true ∧ m.1.length ≤ 8 ∧ m.2 ≤ 3
def seqOf (b : Bool) (ds : List PyData) : PyData := if b then .list ds else .tuple ds
theorem seqOf_seq (b : Bool) (ds : List PyData) : seq? (.d (seqOf b ds)) = some ds := by cases b <;> rfl
theorem seqOf_items (b : Bool) (ds : List PyData) : itemsD (seqOf b ds) = some ds := by cases b <;> rfl
theorem seqOf_B (b : Bool) (ds : List PyData) : seqB2 true (seqOf b ds) = true := by cases b <;> rfl
structure MksOk (ms : List (Str × Nat)) : Prop where
  ok : ∀ m ∈ ms, mkOk m
  nd : (ms.map (·.1)).Nodup
  few : ms.length ≤ 12
theorem seq_items {d : PyData} : seq? (.d d) = itemsD d := by cases d <;> rfl
theorem seqB2_items {d : PyData} : seqB2 true d = (itemsD d).isSome := by cases d <;> rfl
theorem side_bad {n : Int} {x : PyData} {es : List PyData} (e : itemsD x = some es) (h : es.all (okP n) = false) : sideD n x = none := by
  unfold sideD
  rw [e]
  show (if es.all (okP n) = true then some (es.filterMap intD) else none) = none
  rw [h]
  rfl
theorem side_good {n : Int} {x : PyData} {es : List PyData} (e : itemsD x = some es) (h : es.all (okP n) = true) : sideD n x = some (es.filterMap intD) := by
  unfold sideD
  rw [e]
  show (if es.all (okP n) = true then some (es.filterMap intD) else none) = _
  rw [h]
  rfl
/-! makers in order -/
def mkK (m : Str × Nat) : NestedKey := .tup [.text m.1, .num (m.2 : Nat)]
theorem mkK_data (m : Str × Nat) : (mkK m).data = mkD m := rfl
theorem mkK_fun : (fun b => (mkK b).data) = mkD := rfl
theorem ranked_mk (ms : List (Str × Nat)) : Ranked mkK ms := by
  refine ⟨fun a _ b _ h => ?_, fun b _ => (by show max 0 (max 0 0) + 1 ≤ 8; decide), fun a _ b _ => ?_, fun b _ => ⟨_, _, rfl⟩⟩
  · unfold mkK at h
    injection h with h
    injection h with h1 h2
    injection h1 with h1
    injection h2 with h2 _
    injection h2 with h2
    exact Prod.ext h1 (by omega)
  · show alike (.tuple [.str a.1, .int (a.2 : Nat)]) (.tuple [.str b.1, .int (b.2 : Nat)]) = true
    simp [alike, alikeAll]
noncomputable def sortM (ms : List (Str × Nat)) : List (Str × Nat) := ordB (fun b => (mkK b).data) ms
theorem mem_sortM {ms : List (Str × Nat)} {m : Str × Nat} : m ∈ sortM ms ↔ m ∈ ms := (ranked_mk ms).mem
theorem sortM_len (ms : List (Str × Nat)) : (sortM ms).length ≤ ms.length := ordB_len (ranked_mk ms)
theorem sortM_congr {ms ns : List (Str × Nat)} (h : ∀ m, m ∈ ms ↔ m ∈ ns) : sortM ms = sortM ns := ordB_congr h
/-! rules -/
abbrev Rl := Str × Str × List Pm
def rlD (r : Rl) : PyData := .tuple [.str r.1, .str r.2.1, .tuple (r.2.2.map pmD)]
def rlK (r : Rl) : NestedKey := .tup [.text r.1, .text r.2.1, .tup (r.2.2.map pmK)]
theorem datas_pm : ∀ ps : List Pm, NestedKey.datas (ps.map pmK) = ps.map pmD
  | [] => rfl
  | p :: ps => by
    show (pmK p).data :: NestedKey.datas (ps.map pmK) = _
    rw [datas_pm ps, pmK_data]
    rfl
theorem rlK_data (r : Rl) : (rlK r).data = rlD r := by
  show PyData.tuple [.str r.1, .str r.2.1, .tuple (NestedKey.datas (r.2.2.map pmK))] = _
  rw [datas_pm]
  rfl
theorem rlK_fun : (fun b => (rlK b).data) = rlD := funext rlK_data
theorem deep_pm : ∀ ps : List Pm, NestedKey.depthAll (ps.map pmK) ≤ 2
  | [] => Nat.zero_le _
  | p :: ps => by
    show max (pmK p).depth (NestedKey.depthAll (ps.map pmK)) ≤ 2
    have h1 := deep_pm ps
    have h2 : (pmK p).depth ≤ 2 := by
      show max (NestedKey.depthAll (p.1.map NestedKey.num) + 1) (max (NestedKey.depthAll (p.2.map NestedKey.num) + 1) 0) + 1 ≤ 2
      rw [depth_num, depth_num]
      decide
    omega
theorem alike_pms : ∀ ps qs : List Pm, alikeAll (ps.map pmD) (qs.map pmD) = true
  | [], _ => by simp [alikeAll]
  | _ :: _, [] => by simp [alikeAll]
  | p :: ps, q :: qs => by
    have h := alike_pm p q
    rw [pmK_data, pmK_data] at h
    show alikeAll (pmD p :: ps.map pmD) (pmD q :: qs.map pmD) = true
    rw [alikeAll, h, alike_pms ps qs]
    rfl
theorem pmK_maps : ∀ {ps qs : List Pm}, ps.map pmK = qs.map pmK → ps = qs
  | [], [], _ => rfl
  | [], _ :: _, h => by cases h
  | _ :: _, [], h => by cases h
  | p :: ps, q :: qs, h => by
    injection h with h1 h2
    rw [pmK_inj h1, pmK_maps h2]
theorem ranked_rl (rs : List Rl) : Ranked rlK rs := by
  refine ⟨fun a _ b _ h => ?_, fun b _ => ?_, fun a _ b _ => ?_, fun b _ => ⟨_, _, rfl⟩⟩
  · unfold rlK at h
    injection h with h
    injection h with h1 h2
    injection h1 with h1
    injection h2 with h2 h3
    injection h2 with h2
    injection h3 with h3 _
    injection h3 with h3
    exact Prod.ext h1 (Prod.ext h2 (pmK_maps h3))
  · show max 0 (max 0 (max (NestedKey.depthAll (b.2.2.map pmK) + 1) 0)) + 1 ≤ 8
    have := deep_pm b.2.2
    omega
  · rw [rlK_data, rlK_data]
    show alike (.tuple [.str a.1, .str a.2.1, .tuple (a.2.2.map pmD)]) (.tuple [.str b.1, .str b.2.1, .tuple (b.2.2.map pmD)]) = true
    simp [alike, alikeAll, alike_pms]
noncomputable def sortR (rs : List Rl) : List Rl := ordB (fun b => (rlK b).data) rs
theorem mem_sortR {rs : List Rl} {r : Rl} : r ∈ sortR rs ↔ r ∈ rs := (ranked_rl rs).mem
theorem sortR_len (rs : List Rl) : (sortR rs).length ≤ rs.length := ordB_len (ranked_rl rs)
theorem sortR_congr {rs qs : List Rl} (h : ∀ r, r ∈ rs ↔ r ∈ qs) : sortR rs = sortR qs := ordB_congr h
/-- a rule as it is handed in: its name, side, premises as data, and what they are -/
structure RuleIn where
  name : Str
  side : Str
  prem : PyData
  ps : List Pm
def RuleIn.d (r : RuleIn) : PyData := .tuple [.str r.name, .str r.side, r.prem]
noncomputable def RuleIn.rl (r : RuleIn) : Rl := (r.name, r.side, sortP r.ps)
structure RuleOk (ms : List (Str × Nat)) (r : RuleIn) : Prop where
  side : r.side = "left" ∨ r.side = "right"
  name : nameS r.name = true ∧ r.name.length ≤ 8
  prem : ∃ n ds, (r.name, n) ∈ ms ∧ n ≤ 3 ∧ itemsD r.prem = some ds ∧ needGo (n : Nat) 0 ds = .inr r.ps ∧ (∀ x ∈ ds, fewD x) ∧ ds.length < 64
/-- how many places each maker has, as a dict -/
def placesK (ms : List (Str × Nat)) : List (Key × PyData) := mergeM (ms.map fun m => (.inr m.1, .int (m.2 : Nat)))
theorem merge_app : ∀ {l acc : List (Key × PyData)}, ((acc ++ l).map (·.1)).Nodup → l.foldl (fun a p => putM a p.1 p.2) acc = acc ++ l
  | [], acc, _ => by rw [List.append_nil]; rfl
  | p :: l, acc, h => by
    have no : ∀ q ∈ acc, q.1 ≠ p.1 := fun q hq e => by
      rw [List.map_append, List.nodup_append] at h
      exact h.2.2 q.1 (List.mem_map.mpr ⟨q, hq, rfl⟩) p.1 (by simp) e
    have e : putM acc p.1 p.2 = acc ++ [p] := by
      unfold putM
      rw [if_neg]
      intro c
      obtain ⟨q, hq, e⟩ := List.any_eq_true.mp c
      exact no q hq (of_decide_eq_true e)
    show l.foldl _ (putM acc p.1 p.2) = _
    rw [e, merge_app (by rw [List.append_assoc]; exact h), List.append_assoc]
    rfl
theorem placesK_is {ms : List (Str × Nat)} (nd : (ms.map (·.1)).Nodup) : placesK ms = ms.map fun m => (.inr m.1, .int (m.2 : Nat)) := by
  unfold placesK mergeM
  rw [merge_app]
  · rfl
  · show ((ms.map fun m => ((Sum.inr m.1 : Key), PyData.int (m.2 : Nat))).map (·.1)).Nodup
    rw [List.map_map]
    have e : ((fun p : Key × PyData => p.1) ∘ fun m : Str × Nat => ((Sum.inr m.1 : Key), PyData.int (m.2 : Nat))) = (fun x : Str => (Sum.inr x : Key)) ∘ (fun m : Str × Nat => m.1) := rfl
    rw [e, ← List.map_map]
    exact List.Pairwise.map _ (fun a b ne h => ne (Sum.inr.inj h)) nd
theorem placesK_get {ms : List (Str × Nat)} (nd : (ms.map (·.1)).Nodup) {x : Str} {n : Nat} (h : (x, n) ∈ ms) : getM (placesK ms) (.inr x) = some (.int (n : Nat)) := by
  rw [placesK_is nd]
  induction ms with
  | nil => cases h
  | cons m ms ih =>
    obtain ⟨n1, n2⟩ := List.nodup_cons.mp nd
    unfold getM
    rw [List.map_cons, List.find?_cons]
    by_cases c : m.1 = x
    · have e : m = (x, n) := by
        rcases List.mem_cons.mp h with e | e
        · exact e.symm
        · exact absurd (List.mem_map.mpr ⟨(x, n), e, c.symm⟩) n1
      rw [e]
      simp
    · have nb : decide ((Sum.inr m.1 : Key) = .inr x) = false := decide_eq_false fun e => c (Sum.inr.inj e)
      rw [nb]
      rcases List.mem_cons.mp h with e | e
      · rw [← e] at c
        exact absurd rfl c
      · exact ih n2 e
/-- a book's fields -/
def bookF (ms : List (Str × Nat)) (rs : List Rl) : List (Str × Fd) := [("makers", .pt (ms.map mkD)), ("rules", .d (.tuple (rs.map rlD)))]
section
variable {K : PySem.W.Frag} {bx X0 : Addr → Prop} {H0 : Hp} {ρ : Rho} {Φ : Dat → Prop}
/-- x in xs, data -/
theorem w_inD {a b : TE} (h : W K bx X0 H0 a ρ fun x => W K bx X0 H0 b ρ fun y => ∃ d ds, dat? x = some d ∧ dat? y = some (.list ds) ∧ SeqAt.shaped d = true ∧ SeqAt.shaped (.list ds) = true ∧ Φ (.d (.bool (ds.any fun z => PyData.eqv z d)))) : W K bx X0 H0 (tOp (rInD K) a b) ρ Φ :=
  w_op (h.mono fun x q0 => W.mono q0 fun y ⟨d, ds, e1, e2, s1, s2, q⟩ X H E v u d1 d2 Q k => ⟨d, ds, dp_mono core_le _ _ (da_dp d1 e1), dp_mono core_le _ _ (da_dp d2 e2), s1, s2, k _ _ H (.refl H) (ok_d (.bl _)) q⟩)
end
end Say

set_option Elab.async false
set_option linter.all false
set_option pp.maxSteps 1500
set_option pp.deepTerms false
set_option maxRecDepth 100000
set_option maxHeartbeats 8000000
namespace K03
open PySem PySem.Spec PyProof.Rows L2 Say
section
variable {P : Program} {w : World} {K : PySem.W.Frag} {mg : Str → Option Value} {base : Heap}
def f_is_letter_sign : FnA Str := fnF (fun s => [.d (.str s)]) (fun _ => True) (fun s => .d (.bool (letB s)))
def N_is_letter_sign : List Str := ["sign"]
theorem sc_is_letter_sign : FnScope N_is_letter_sign ["sign"] (defScope (top 19)) := ⟨rfl, rfl, rfl, by decide +kernel, rfl, by decide +kernel, by decide +kernel⟩
theorem fk_is_letter_sign (T : Tx K mg) {fd : FuncData} (F : FnP K "is_letter_sign" 19 [] (He.ga K "is_letter_sign") fd) : FnOk P w K mg base CX0 1 (He.ga K "is_letter_sign") fd ["sign"] (spA K f_is_letter_sign) := by
  obtain ⟨t__LETTERS, m__LETTERS⟩ := T.v__LETTERS
  refine fnA_ok F sc_is_letter_sign (fun _ => rfl) (fun cdv A ou s H E hr => ⟨_, (PSs.nox (pss_one (ps_ret (pe_cmpR op_in_str (pv 0) (pe_glob (by rfl) m__LETTERS (show RelV (.str "abcdefghijklmnopqrstuvwxyz") (.str "abcdefghijklmnopqrstuvwxyz" t__LETTERS) from ⟨_, rfl⟩)) rfl)))), ?_⟩)
  rintro a bx X sb pre hE
  show WS K bx X H _ [some _] _ _ _ _
  exact ws_ret sb (w_inStr (w_var rfl (w_cdat ⟨_, _, rfl, rfl, rfl, rfl⟩)))
theorem gk_is_letter_sign (T : Tx K mg) : Gd P w K mg base CX0 1 "is_letter_sign" ["sign"] [] f_is_letter_sign := by
  obtain ⟨fd, F⟩ := T.F_is_letter_sign
  exact ⟨fd, [], fk_is_letter_sign T F, ⟨.nil, F.bindsN fun _ _ _ _ _ _ us hl => match us, hl with | [_], _ => rfl⟩, F.kp⟩
def f_is_name : FnA PyData := fnF (fun d => [.d d]) (fun d => ∀ z, d = .str z → z.length ≤ 1000) (fun d => .d (.bool (nameB d)))
def N_is_name : List Str := ["value", "sign"]
theorem sc_is_name : FnScope N_is_name ["value"] (defScope (top 20)) := ⟨rfl, rfl, rfl, by decide +kernel, rfl, by decide +kernel, by decide +kernel⟩
theorem fk_is_name (T : Tx K mg) {fd : FuncData} (F : FnP K "is_name" 20 [] (He.ga K "is_name") fd) : FnOk P w K mg base CX0 2 (He.ga K "is_name") fd ["value"] (spA K f_is_name) := by
  obtain ⟨t__LONGEST_NAME, m__LONGEST_NAME⟩ := T.v__LONGEST_NAME
  refine fnA_ok F sc_is_name (fun _ => rfl) (fun cdv A ou s H E hr => ⟨_, (PSs.nox (pss_cons (ps_if (PW.pt (pw_or (pt_not (pt_val (pe_isiK (T := "str") K rfl (pv 0) T.b_isinstance T.b_str (by decide +kernel)))) (pw_or1 (pt_not (pt_chain op_le op_le pe_int (pe_callB call_len_str (by rfl) T.b_len PySem.boot_len (pa_cons (pv 0) pa_nil)) (pe_glob (by rfl) m__LONGEST_NAME (show RelV (.int 8) (.int 8 t__LONGEST_NAME) from ⟨_, rfl⟩)))))))
      (pss_one (ps_ret pe_bl))
      pss_nil)
      (pss_one (ps_ret (pe_callB (show CallR _ _ (rAll K) from cr_all (by rfl)) (by rfl) T.b_all (by decide +kernel) (pa_cons (pe_lc (own := [("sign", 1)]) (g := gName 1) (tt := tYes) rfl sc_is_name.nd (pi_str (pv 0)) (blkOk_by (N := N_is_name) (sc := defScope (top 20)) (by decide +kernel)) (fun _ _ _ _ _ => (pg_name (i := 1) sc_is_name.nd rfl (by first | exact Or.inl rfl | exact Or.inr rfl))) (fun _ _ _ _ _ => pts_nil) (fun _ _ _ _ _ => (pe_gd (gk_is_letter_sign T) (hr.mono (by decide)) rfl T.g_is_letter_sign pass0 (pa_cons (pv 1) pa_nil)))) pa_nil)))))), ?_⟩)
  rintro a bx X sb pre hE
  show WS K bx X H _ [some _, none] _ _ _ _
  replace pre : ∀ z, a = .str z → z.length ≤ 1000 := pre
  refine ws_seq (ws_if (wt_or (wt_not (wt_b (w_isi (by decide) (w_var rfl ⟨a, rfl, _, rfl, fun c => ⟨fun _ => ws_ret sb (w_bl ⟨rfl, ?_⟩), (fun c => nomatch c)⟩, fun c => ?_⟩))))))
  · have c' : isD "str" a = false := by simpa using c
    rw [isD_str] at c'
    cases a <;> first | (cases c'; done) | rfl
  · have c' : isD "str" a = true := by simpa using c
    rw [isD_str] at c'
    cases a with
    | str z =>
      have lz := pre z rfl
      have big : 1000 ≤ sizeLine := by decide
      refine wt_not (wt_test (w_chainL (w_int (w_lenS (wa_cons (w_var rfl (wa_nil ⟨z, rfl, by omega, 1, _, rfl, rfl, fun h1 => w_cdat ⟨8, rfl, _, rfl, fun c2 => ws_ret sb (w_bl ⟨rfl, ?_⟩), fun c2 => ws_next ?_⟩, fun h1 => ⟨_, rfl, fun _ => ws_ret sb (w_bl ⟨rfl, ?_⟩), (fun c => nomatch c)⟩⟩)))))))
      · have c3 : decide (((z.length : Nat) : Int) ≤ 8) = false := by simpa using c2
        show Dat.d (.bool false) = Dat.d (.bool (nameS z))
        unfold nameS
        rw [c3, Bool.and_false, Bool.false_and]
      · have c3 : decide (((z.length : Nat) : Int) ≤ 8) = true := by simpa using c2
        have ls : (z.cps.toList).length ≤ 1000 := lz
        refine ws_ret sb (w_all (wa_cons (w_of_wf (wf_map (wi_str (w_var rfl ⟨z, rfl, few ls, Nat, z.cps.toList, fun c => .str ⟨#[c]⟩, fun c => .bool (letB ⟨#[c]⟩), rfl, fun c hc => wg_name (by decide) (w_callF (wa_cons (w_var rfl (wa_nil ⟨_, rfl, rfl, trivial, rfl⟩)))), wa_nil ⟨z.cps.toList.map fun c => letB ⟨#[c]⟩, ?_, rfl, ?_⟩⟩))))))
        · rw [List.map_map]
          rfl
        · show Dat.d _ = Dat.d (.bool (nameS z))
          unfold nameS
          rw [c3, decide_eq_true h1, List.all_map]
          rfl
      · show Dat.d (.bool false) = Dat.d (.bool (nameS z))
        unfold nameS
        rw [decide_eq_false h1]
        rfl
    | _ => cases c'
theorem gk_is_name (T : Tx K mg) : Gd P w K mg base CX0 2 "is_name" ["value"] [] f_is_name := by
  obtain ⟨fd, F⟩ := T.F_is_name
  exact ⟨fd, [], fk_is_name T F, ⟨.nil, F.bindsN fun _ _ _ _ _ _ us hl => match us, hl with | [_], _ => rfl⟩, F.kp⟩
def f_is_maker : FnA (Str × Nat) := fnF (fun m => [.d (mkD m)]) mkOk (fun _ => .d (.bool true))
def N_is_maker : List Str := ["value"]
theorem sc_is_maker : FnScope N_is_maker ["value"] (defScope (top 37)) := ⟨rfl, rfl, rfl, by decide +kernel, rfl, by decide +kernel, by decide +kernel⟩
theorem fk_is_maker (T : Tx K mg) {fd : FuncData} (F : FnP K "is_maker" 37 [] (He.ga K "is_maker") fd) : FnOk P w K mg base CX0 3 (He.ga K "is_maker") fd ["value"] (spA K f_is_maker) := by
  obtain ⟨t_MOST_PLACES, m_MOST_PLACES⟩ := T.v_MOST_PLACES
  refine fnA_ok F sc_is_maker (fun _ => rfl) (fun cdv A ou s H E hr => ⟨_, (PSs.nox (pss_cons (ps_if (PW.pt (pw_or (pt_not (pt_val (pe_gd (gk_is_sequence T) (hr.mono (by decide)) rfl T.g_is_sequence pass0 (pa_cons (pv 0) pa_nil)))) (pw_or1 (pt_cmpR op_ne (pe_callB (show CallR _ _ (rLenQ K) from call_len_seq) (by rfl) T.b_len PySem.boot_len (pa_cons (pv 0) pa_nil)) pe_int (nomark _)))))
      (pss_one (ps_ret pe_bl))
      pss_nil)
      (pss_one (ps_ret (pe_and (pe_gd (gk_is_name T) (hr.mono (by decide)) rfl T.g_is_name pass0 (pa_cons (pe_ix ix_sq (pv 0) pe_int (fun _ _ => rfl)) pa_nil)) (pe_one (pe_gd (gk_is_number_below T) (hr.mono (by decide)) rfl T.g_is_number_below pass0 (pa_cons (pe_ix ix_sq (pv 0) pe_int (fun _ _ => rfl)) (pa_cons (pe_op op_add (pe_glob (by rfl) m_MOST_PLACES (show RelV (.int 3) (.int 3 t_MOST_PLACES) from ⟨_, rfl⟩)) pe_int) pa_nil))))))))), ?_⟩)
  rintro a bx X sb pre hE
  show WS K bx X H _ [some _] _ _ _ _
  obtain ⟨h1, h2, h3⟩ := pre
  refine ws_seq (ws_if (wt_or (wt_not (wt_b (w_callF (wa_cons (w_var rfl (wa_nil ⟨(mkD a, true), rfl, rfl, trivial, _, rfl, (fun c => nomatch c), fun _ => wt_test (w_neI (w_lenQ (wa_cons (w_var rfl (wa_nil ⟨_, [.str a.1, .int (a.2 : Nat)], rfl, rfl, w_int ⟨_, 2, rfl, rfl, _, rfl, (fun c => nomatch c), fun _ => ws_next ?_⟩⟩)))))⟩))))))))
  refine ws_ret sb (w_andV (w_callF (wa_cons (w_ix (w_var rfl (w_int ⟨_, 0, .str a.1, rfl, rfl, rfl, wa_nil ⟨_, rfl, rfl, fun z hz => ?_, _, rfl, fun c => ?_, fun c => ?_⟩⟩))))))
  · cases hz
    omega
  · refine w_callF (wa_cons (w_ix (w_var rfl (w_int ⟨_, 1, .int (a.2 : Nat), rfl, rfl, rfl, wa_cons (w_add (w_cdat (w_int ⟨3, 1, rfl, rfl, wa_nil ⟨(.int (a.2 : Nat), 4), rfl, rfl, trivial, rfl, ?_⟩⟩)))⟩))))
    show Dat.d (.bool (decide ((0 : Int) ≤ (a.2 : Nat)) && decide (((a.2 : Nat) : Int) < 4))) = Dat.d (.bool true)
    rw [decide_eq_true (by omega), decide_eq_true (by omega)]
    rfl
  · have c' : nameS a.1 = false := c
    rw [h1] at c'
    cases c'
theorem gk_is_maker (T : Tx K mg) : Gd P w K mg base CX0 3 "is_maker" ["value"] [] f_is_maker := by
  obtain ⟨fd, F⟩ := T.F_is_maker
  exact ⟨fd, [], fk_is_maker T F, ⟨.nil, F.bindsN fun _ _ _ _ _ _ us hl => match us, hl with | [_], _ => rfl⟩, F.kp⟩
def f_wrong_maker : FnA (List (Str × Nat) × Bool) := fnF (fun a => [.d (seqOf a.2 (a.1.map mkD))]) (fun a => MksOk a.1) (fun _ => .d .none)
def seenK (ms : List (Str × Nat)) : List (Key × PyData) := ms.map fun m => (.inr m.1, .bool true)
theorem seenK_get {ms : List (Str × Nat)} {x : Str} (h : x ∉ ms.map (·.1)) : getM (seenK ms) (.inr x) = none ∧ putM (seenK ms) (.inr x) (.bool true) = seenK ms ++ [(.inr x, .bool true)] := by
  have no : ∀ p ∈ seenK ms, p.1 ≠ .inr x := fun p hp e => by
    obtain ⟨m, hm, rfl⟩ := List.mem_map.mp hp
    have e' : m.1 = x := Sum.inr.inj e
    exact h (List.mem_map.mpr ⟨m, hm, e'⟩)
  refine ⟨?_, ?_⟩
  · unfold getM
    rw [List.find?_eq_none.mpr fun p hp => by simpa using no p hp]
    rfl
  · unfold putM
    rw [if_neg]
    intro c
    obtain ⟨p, hp, e⟩ := List.any_eq_true.mp c
    exact no p hp (of_decide_eq_true e)
def N_wrong_maker : List Str := ["makers", "names", "at", "maker"]
theorem sc_wrong_maker : FnScope N_wrong_maker ["makers"] (defScope (top 38)) := ⟨rfl, rfl, rfl, by decide +kernel, rfl, by decide +kernel, by decide +kernel⟩
theorem fk_wrong_maker (T : Tx K mg) {fd : FuncData} (F : FnP K "wrong_maker" 38 [] (He.ga K "wrong_maker") fd) : FnOk P w K mg base CX0 4 (He.ga K "wrong_maker") fd ["makers"] (spA K f_wrong_maker) := by
  obtain ⟨t_MOST_MAKERS, m_MOST_MAKERS⟩ := T.v_MOST_MAKERS
  refine fnA_ok F sc_wrong_maker (fun _ => rfl) (fun cdv A ou s H E hr => have hun := room65 hr; ⟨_, (PSs.nox (pss_cons (ps_if (pt_not (pt_val (pe_gd (gk_is_sequence T) (hr.mono (by decide)) rfl T.g_is_sequence pass0 (pa_cons (pv 0) pa_nil))))
      (pss_one (ps_ret (pe_un un_neg pe_int)))
      pss_nil)
      (pss_cons (ps_set (i := 1) sc_wrong_maker.nd rfl (Or.inl rfl) pe_dnewK)
      (pss_cons (ps_for PassesOwn.never rfl (pi_enumSq (by rfl) T.b_enumerate (pa_cons (pv 0) pa_nil)) (pg_tup (by rfl) (pgs_cons (pg_name (i := 2) sc_wrong_maker.nd rfl (Or.inl rfl)) (pgs_cons (pg_name (i := 3) sc_wrong_maker.nd rfl (Or.inl rfl)) pgs_nil)))
      (pss_cons (ps_if (PW.pt (pw_or (pt_not (pt_val (pe_gd (gk_is_maker T) (hr.mono (by decide)) rfl T.g_is_maker pass0 (pa_cons (pv 3) pa_nil)))) (pw_or (pt_cmp (pc_din (unit1 hun) (pe_ix ix_sq (pv 3) pe_int (fun _ _ => rfl)) (pv 1))) (pw_or1 (pt_cmpR op_eq (pv 2) (pe_glob (by rfl) m_MOST_MAKERS (show RelV (.int 12) (.int 12 t_MOST_MAKERS) from ⟨_, rfl⟩)) (nomark _))))))
      (pss_one (ps_ret (pv 2)))
      pss_nil)
      (pss_one (ps_dput (unit1 hun) (pv 1) (pe_ix ix_sq (pv 3) pe_int (fun _ _ => rfl)) pe_bl rfl))))
      (pss_one (ps_ret pe_non)))))), ?_⟩)
  rintro a bx X sb pre hE
  show WS K bx X H _ [some _, none, none, none] _ _ _ _
  obtain ⟨ms, b⟩ := a
  obtain ⟨ok, nd, few12⟩ := pre
  replace few12 : ms.length ≤ 12 := few12
  replace nd : (ms.map (·.1)).Nodup := nd
  replace ok : ∀ m ∈ ms, mkOk m := ok
  refine ws_seq (ws_if (wt_not (wt_b (w_callF (wa_cons (w_var rfl (wa_nil ⟨(seqOf b (ms.map mkD), true), rfl, rfl, trivial, _, rfl, fun c => ?_, fun _ => ws_next ?_⟩)))))))
  · have c' : (!seqB2 true (seqOf b (ms.map mkD))) = true := c
    rw [seqOf_B] at c'
    cases c'
  refine ws_seq (ws_dnew fun D => ?_)
  refine ws_forS [2, 3] [2, 3] (wi_en (wa_cons (w_var rfl (wa_nil ⟨_, _, ms.map mkD, rfl, rfl, seqOf_seq b _, fun i ρ' => ρ' = [some (.d (seqOf b (ms.map mkD))), some (.m D (seenK (ms.take i))), none, none], rfl, ?_, ?_⟩))))
  · rintro i z ρ' hz rfl
    rw [List.getElem?_mapIdx, List.getElem?_map] at hz
    obtain ⟨y, hy, rfl⟩ := Option.map_eq_some_iff.mp hz
    obtain ⟨m, hm, rfl⟩ := Option.map_eq_some_iff.mp hy
    have mo := ok m (List.mem_of_getElem? hm)
    have il : i < ms.length := (List.getElem?_eq_some_iff.mp hm).1
    have fresh : m.1 ∉ (ms.take i).map (·.1) := fun hc => by
      obtain ⟨j, hj⟩ := List.mem_iff_getElem?.mp hc
      rw [List.getElem?_map, List.getElem?_take] at hj
      split at hj
      · rename_i lt
        have e1 : (ms.map (·.1))[j]? = (ms.map (·.1))[i]? := by rw [List.getElem?_map, hj, List.getElem?_map, hm]; rfl
        have := (List.getElem?_inj (by rw [List.length_map]; omega) nd).mp e1
        omega
      · cases hj
    obtain ⟨g1, g2⟩ := seenK_get fresh
    refine wg_tup rfl rfl (wgs_cons (wg_name (by decide) (wgs_cons (wg_name (by decide) (wgs_nil ?_)))))
    refine ws_seq (ws_if (wt_or (wt_not (wt_b (w_callF (wa_cons (w_var rfl (wa_nil ⟨m, rfl, rfl, mo, _, rfl, (fun c => nomatch c), fun _ => wt_or (wt_b (w_din (w_ix (w_var rfl (w_int ⟨_, 0, .str m.1, rfl, rfl, rfl, w_var rfl ⟨.inr m.1, _, rfl, rfl, _, rfl, fun c => ?_, fun _ => wt_test (w_eqI (w_var rfl (w_cdat ⟨_, 12, rfl, rfl, _, rfl, fun c => ?_, fun _ => ws_next ?_⟩)))⟩⟩)))))⟩))))))))
    · rw [g1] at c
      cases c
    · exfalso
      have := of_decide_eq_true c
      omega
    · refine ws_dput rfl rfl (by unfold seenK; rw [List.length_map, List.length_take]; omega) (w_bl (w_ix (w_var rfl (w_int ⟨_, 0, .str m.1, rfl, rfl, rfl, .inr m.1, .bool true, rfl, rfl, ?_⟩))))
      show [some (Dat.d (seqOf b (ms.map mkD))), some (Dat.m D (putM (seenK (ms.take i)) (.inr m.1) (.bool true))), none, none] = _
      rw [g2]
      have e : seenK (ms.take (i + 1)) = seenK (ms.take i) ++ [(.inr m.1, .bool true)] := by
        unfold seenK
        rw [List.take_succ, hm, List.map_append]
        rfl
      rw [e]
  · rintro ρ' rfl
    exact ws_ret sb (w_non ⟨rfl, rfl⟩)
theorem gk_wrong_maker (T : Tx K mg) : Gd P w K mg base CX0 4 "wrong_maker" ["makers"] [] f_wrong_maker := by
  obtain ⟨fd, F⟩ := T.F_wrong_maker
  exact ⟨fd, [], fk_wrong_maker T F, ⟨.nil, F.bindsN fun _ _ _ _ _ _ us hl => match us, hl with | [_], _ => rfl⟩, F.kp⟩
end
end K03

set_option Elab.async false
set_option linter.all false
set_option pp.maxSteps 1500
set_option pp.deepTerms false
set_option maxRecDepth 100000
set_option maxHeartbeats 8000000
namespace K03
open PySem PySem.Spec PyProof.Rows L2 Say
section
variable {P : Program} {w : World} {K : PySem.W.Frag} {mg : Str → Option Value} {base : Heap}
noncomputable def f_makers_in_order : FnA (List (Str × Nat) × Bool) := fnF (fun a => [.d (seqOf a.2 (a.1.map mkD))]) (fun a => MksOk a.1) (fun a => .pt ((sortM a.1).map mkD))
def N_makers_in_order : List Str := ["makers", "name", "places"]
theorem sc_makers_in_order : FnScope N_makers_in_order ["makers"] (defScope (top 39)) := ⟨rfl, rfl, rfl, by decide +kernel, rfl, by decide +kernel, by decide +kernel⟩
theorem fk_makers_in_order (T : Tx K mg) {fd : FuncData} (F : FnP K "makers_in_order" 39 [] (He.ga K "makers_in_order") fd) : FnOk P w K mg base CX0 1 (He.ga K "makers_in_order") fd ["makers"] (spA K f_makers_in_order) := by
  refine fnA_ok F sc_makers_in_order (fun _ => rfl) (fun cdv A ou s H E hr => have hun := room65 hr; ⟨_, (PSs.nox (pss_one (ps_ret (pe_callTy (show CallR _ _ (rTupP K) from cr_tupP) (by rfl) T.b_tuple (by decide +kernel) (pa_cons (pe_callB (show CallR _ _ (rSortLN K) from cr_sortLN (unit64 hun)) (by rfl) T.b_sorted (by decide +kernel) (pa_cons (pe_lc (own := [("name", 1), ("places", 2)]) (tt := tYes) rfl sc_makers_in_order.nd (pi_sq (pv 0)) (blkOk_by (N := N_makers_in_order) (sc := defScope (top 39)) (by decide +kernel)) (fun _ _ _ _ _ => (pg_tupK (n := 2) K rfl (by rfl) (pgs_cons (pg_name (i := 1) sc_makers_in_order.nd rfl (by first | exact Or.inl rfl | exact Or.inr rfl)) (pgs_cons (pg_name (i := 2) sc_makers_in_order.nd rfl (by first | exact Or.inl rfl | exact Or.inr rfl)) pgs_nil)))) (fun _ _ _ _ _ => pts_nil) (fun _ _ _ _ _ => (pe_tup (pa_cons (pv 1) (pa_cons (pv 2) pa_nil))))) pa_nil)) pa_nil))))), ?_⟩)
  rintro a bx X sb pre hE
  show WS K bx X H _ [some _, none, none] _ _ _ _
  obtain ⟨ms, b⟩ := a
  obtain ⟨ok, nd, few12⟩ := pre
  replace few12 : ms.length ≤ 12 := few12
  replace nd : (ms.map (·.1)).Nodup := nd
  have nd2 : ms.Nodup := List.Pairwise.imp (fun h e => h (by rw [e])) (List.pairwise_map.mp nd)
  refine ws_ret sb (w_tupP (wa_cons (w_of_wf (wf_sortedN (wa_cons (w_of_wf (wf_map (wi_sq (w_var rfl ⟨_, ms.map mkD, rfl, seqOf_seq b _, few few12, Str × Nat, ms, mkD, mkD, rfl, fun m hm => wg_tup rfl rfl (wgs_cons (wg_name (by decide) (wgs_cons (wg_name (by decide) (wgs_nil (w_tup (wa_cons (w_var rfl (wa_cons (w_var rfl (wa_nil ⟨_, rfl, lek rfl, rfl⟩))))))))))), wa_nil ⟨_, Str × Nat, mkK, ms, rfl, rfl, ranked_mk ms, nd2, by omega, wa_nil ⟨_, _, rfl, rfl, rfl, rfl⟩⟩⟩)))))))))
theorem gk_makers_in_order (T : Tx K mg) : Gd P w K mg base CX0 1 "makers_in_order" ["makers"] [] f_makers_in_order := by
  obtain ⟨fd, F⟩ := T.F_makers_in_order
  exact ⟨fd, [], fk_makers_in_order T F, ⟨.nil, F.bindsN fun _ _ _ _ _ _ us hl => match us, hl with | [_], _ => rfl⟩, F.kp⟩
noncomputable def f_lot_rl : FnA (PyData × List Rl) := fnF (fun a => [.d a.1]) (fun a => seq? (.d a.1) = some (a.2.map rlD) ∧ a.2.length < 64) (fun a => .d (.tuple ((sortR a.2).map rlD)))
theorem fk_lot_ofR (T : Tx K mg) {fd : FuncData} (F : FnP K "lot_of" 21 [] (He.ga K "lot_of") fd) : FnOk P w K mg base CX0 1 (He.ga K "lot_of") fd ["values"] (spA K f_lot_rl) := by
  refine fnA_ok F sc_lot_of (fun _ => rfl) (fun cdv A ou s H E hr => have hun := room65 hr; ⟨_, (PSs.nox (pss_one (ps_ret (pe_callTy (show CallR _ _ (rTup K) from call_tuple_of) (by rfl) T.b_tuple (by decide +kernel) (pa_cons (pe_callB (cr_sortedN (by rfl) (Nat.lt_of_succ_lt hun)) (by rfl) T.b_sorted (by decide +kernel) (pa_cons (pe_callTy (cr_setN (by rfl) (Nat.lt_of_succ_lt hun)) (by rfl) T.b_set (by decide +kernel) (pa_cons (pv 0) pa_nil)) pa_nil)) pa_nil))))), ?_⟩)
  rintro a bx X sb pre hE
  show WS K bx X H _ [some _] _ _ _ _
  refine ws_ret sb (w_lotN (w_var rfl ⟨_, Rl, rlK, a.2, rfl, ?_, ranked_rl _, pre.2, rfl, ?_⟩))
  · rw [rlK_fun]
    exact pre.1
  · show Dat.d _ = Dat.d _
    unfold sortR
    rw [rlK_fun]
theorem gk_lot_ofR (T : Tx K mg) : Gd P w K mg base CX0 1 "lot_of" ["values"] [] f_lot_rl := by
  obtain ⟨fd, F⟩ := T.F_lot_of
  exact ⟨fd, [], fk_lot_ofR T F, ⟨.nil, F.bindsN fun _ _ _ _ _ _ us hl => match us, hl with | [_], _ => rfl⟩, F.kp⟩
noncomputable def f_formed_rule : FnA (RuleIn × List (Str × Nat)) := fnF (fun a => [.d a.1.d, .fm (placesK a.2)]) (fun a => (a.2.map (·.1)).Nodup ∧ RuleOk a.2 a.1) (fun a => .d (rlD a.1.rl))
/-- a premise, formed -/
def premF (n : Int) (d : PyData) : PyData := match premD n d with
  | some p => pmD p
  | none => .none
theorem needGo_each {n : Int} : ∀ {ds : List PyData} {i : Nat} {ps : List Pm}, needGo n i ds = .inr ps → ds.map (premF n) = ps.map pmD ∧ ∀ d ∈ ds, ∃ p, premD n d = some p
  | [], _, ps, h => by
    cases h
    exact ⟨rfl, fun d hd => nomatch hd⟩
  | d :: r, i, ps, h => by
    unfold needGo at h
    cases e : premD n d with
    | none =>
      rw [e] at h
      cases h
    | some p =>
      rw [e] at h
      cases e2 : needGo n (i + 1) r with
      | inl k =>
        rw [e2] at h
        cases h
      | inr qs =>
        rw [e2] at h
        cases h
        obtain ⟨h1, h2⟩ := needGo_each e2
        refine ⟨?_, fun x hx => ?_⟩
        · rw [List.map_cons, List.map_cons, h1]
          unfold premF
          rw [e]
        · rcases List.mem_cons.mp hx with rfl | hx
          · exact ⟨p, e⟩
          · exact h2 x hx
theorem any_none (ps : List Pm) : ((ps.map pmD).any fun z => PyData.eqv z .none) = false := by
  rw [List.any_eq_false]
  intro z hz
  obtain ⟨p, _, rfl⟩ := List.mem_map.mp hz
  exact Bool.false_ne_true
def N_formed_rule : List Str := ["value", "places", "name", "side", "premises", "formed", "premise"]
theorem sc_formed_rule : FnScope N_formed_rule ["value", "places"] (defScope (top 40)) := ⟨rfl, rfl, rfl, by decide +kernel, rfl, by decide +kernel, by decide +kernel⟩
theorem fk_formed_rule (T : Tx K mg) {fd : FuncData} (F : FnP K "formed_rule" 40 [] (He.ga K "formed_rule") fd) : FnOk P w K mg base CX0 3 (He.ga K "formed_rule") fd ["value", "places"] (spA K f_formed_rule) := by
  refine fnA_ok F sc_formed_rule (fun _ => rfl) (fun cdv A ou s H E hr => have hun := room65 hr; ⟨_, (PSs.nox (pss_cons (ps_if (PW.pt (pw_or (pt_not (pt_val (pe_gd (gk_is_sequence T) (hr.mono (by decide)) rfl T.g_is_sequence pass0 (pa_cons (pv 0) pa_nil)))) (pw_or1 (pt_cmpR op_ne (pe_callB (show CallR _ _ (rLenQ K) from call_len_seq) (by rfl) T.b_len PySem.boot_len (pa_cons (pv 0) pa_nil)) pe_int (nomark _)))))
      (pss_one (ps_ret pe_non))
      pss_nil)
      (pss_cons (ps_asg (pv 0) (pg_tup (by rfl) (pgs_cons (pg_name (i := 2) sc_formed_rule.nd rfl (Or.inr rfl)) (pgs_cons (pg_name (i := 3) sc_formed_rule.nd rfl (Or.inl rfl)) (pgs_cons (pg_name (i := 4) sc_formed_rule.nd rfl (Or.inl rfl)) pgs_nil)))))
      (pss_cons (ps_if (PW.pt (pw_or (pt_not (pt_val (pe_gd (gk_is_name T) (hr.mono (by decide)) rfl T.g_is_name pass0 (pa_cons (pv 2) pa_nil)))) (pw_or (pt_cmp (pc_dnotin (unit1 hun) (pv 2) (pv 1))) (pw_or (pt_cmpR (notInK K rfl) (pv 3) (pe_glob (by rfl) T.g_SIDES (show RelV (.ref (He.ga K "SIDES")) _ from rfl)) rfl) (pw_or1 (pt_not (pt_val (pe_gd (gk_is_sequence T) (hr.mono (by decide)) rfl T.g_is_sequence pass0 (pa_cons (pv 4) pa_nil)))))))))
      (pss_one (ps_ret pe_non))
      pss_nil)
      (pss_cons (ps_setLc (i := 5) (own := [("premise", 6)]) (g := gName 6) (tt := tYes) rfl sc_formed_rule.nd rfl rfl (sw_true rfl rfl rfl (by decide +kernel)) (pi_sq (pv 4)) (blkOk_by (N := N_formed_rule) (sc := defScope (top 40)) (by decide +kernel)) (fun _ _ _ _ _ => (pg_name (i := 6) sc_formed_rule.nd rfl (by first | exact Or.inl rfl | exact Or.inr rfl))) (fun _ _ _ _ _ => pts_nil) (fun _ _ _ _ _ => (pe_gd (gk_formed_premise T) (hr.mono (by decide)) rfl T.g_formed_premise pass0 (pa_cons (pv 6) (pa_cons (pe_dget (unit1 hun) (pv 1) (pv 2) (fun _ _ => rfl)) pa_nil)))))
      (pss_one (ps_ret (pe_ifExp (pt_cmpR (op_inD hun) pe_non (pv 5) rfl) pe_non (pe_tup (pa_cons (pv 2) (pa_cons (pv 3) (pa_cons (pe_gd (gk_lot_ofP T) (hr.mono (by decide)) rfl T.g_lot_of pass0 (pa_cons (pv 5) pa_nil)) pa_nil)))))))))))), ?_⟩)
  rintro a bx X sb pre hE
  show WS K bx X H _ [some _, some _, none, none, none, none, none] _ _ _ _
  obtain ⟨⟨nm, sd, pr, ps⟩, ms⟩ := a
  obtain ⟨nd, ⟨hsd, ⟨hn1, hn2⟩, n, ds, hms, n3, hds, hgo, hfw, few64⟩⟩ := pre
  replace nd : (ms.map (·.1)).Nodup := nd
  replace hsd : sd = "left" ∨ sd = "right" := hsd
  replace hn1 : nameS nm = true := hn1
  replace hn2 : nm.length ≤ 8 := hn2
  replace hms : (nm, n) ∈ ms := hms
  replace hds : itemsD pr = some ds := hds
  replace hgo : needGo (n : Nat) 0 ds = .inr ps := hgo
  have gp := placesK_get nd hms
  obtain ⟨hm1, hm2⟩ := needGo_each hgo
  have lps : ps.length = ds.length := needGo_len ds 0 ps hgo
  have hB : seqB2 true pr = true := by rw [seqB2_items, hds]; rfl
  refine ws_seq (ws_if (wt_or (wt_not (wt_b (w_callF (wa_cons (w_var rfl (wa_nil ⟨(.tuple [.str nm, .str sd, pr], true), rfl, rfl, trivial, _, rfl, (fun c => nomatch c), fun _ => wt_test (w_neI (w_lenQ (wa_cons (w_var rfl (wa_nil ⟨_, [.str nm, .str sd, pr], rfl, rfl, w_int ⟨_, 3, rfl, rfl, _, rfl, (fun c => nomatch c), fun _ => ws_next ?_⟩⟩)))))⟩))))))))
  refine ws_seq (ws_asgT [2, 3, 4] (w_var rfl ⟨_, rfl, wg_tup rfl rfl (wgs_cons (wg_name (by decide) (wgs_cons (wg_name (by decide) (wgs_cons (wg_name (by decide) (wgs_nil ?_)))))))⟩))
  refine ws_seq (ws_if (wt_or (wt_not (wt_b (w_callF (wa_cons (w_var rfl (wa_nil ⟨.str nm, rfl, rfl, fun z hz => (by cases hz; omega), _, rfl, fun c => ?_, fun _ => wt_or (wt_b (w_dnin (w_var rfl (w_var rfl ⟨.inr nm, _, rfl, rfl, _, rfl, fun c => ?_, fun _ => wt_or (wt_test (w_ninSs (w_var rfl (w_cT (bs := ["left", "right"]) T.t_SIDES ⟨sd, ["left", "right"], rfl, rfl, _, rfl, fun c => ?_, fun _ => wt_not (wt_b (w_callF (wa_cons (w_var rfl (wa_nil ⟨(pr, true), rfl, rfl, trivial, _, rfl, fun c => ?_, fun _ => ws_next ?_⟩)))))⟩))))⟩))))⟩))))))))
  · have c' : (!nameS nm) = true := c
    rw [hn1] at c'
    cases c'
  · rw [gp] at c
    cases c
  · exfalso
    have c' : (!decide (sd ∈ (["left", "right"] : List Str))) = true := c
    have : sd ∈ (["left", "right"] : List Str) := by
      rcases hsd with e | e <;> simp [e]
    rw [decide_eq_true this] at c'
    cases c'
  · have c' : (!seqB2 true pr) = true := c
    rw [hB] at c'
    cases c'
  refine ws_seq (ws_own (wf_map (wi_sq (w_var rfl ⟨_, ds, rfl, seq_items.trans hds, by omega, PyData, ds, id, premF (n : Nat), (List.map_id _).symm, fun d hd => wg_name (by decide) (w_call (wa_cons (w_var rfl (wa_cons (w_dget (w_var rfl (w_var rfl ⟨.inr nm, _, _, rfl, rfl, gp, wa_nil ⟨(d, (n : Nat)), rfl, rfl, hfw d hd, ?_, fun e he => False.elim he⟩⟩))))))), ?_⟩))))
  · rintro x (⟨en, rfl⟩ | ⟨p, ep, rfl⟩)
    · obtain ⟨p, hp⟩ := hm2 d hd
      have en' : premD (n : Nat) d = none := en
      rw [hp] at en'
      cases en'
    · show some (pmD p) = some (premF (n : Nat) d)
      have ep' : premD (n : Nat) d = some p := ep
      unfold premF
      rw [ep']
  · intro D hD
    rw [hm1]
    refine ws_frz (i := 5) rfl (only1 rfl) (ws_ret sb (w_if (wt_test (w_inD (w_non (w_var rfl ⟨_, ps.map pmD, rfl, rfl, rfl, pms_shaped ps, _, rfl, fun c => ?_, fun _ => ?_⟩))))))
    · rw [any_none] at c
      cases c
    · exact w_tup (wa_cons (w_var rfl (wa_cons (w_var rfl (wa_cons (w_callF (wa_cons (w_var rfl (wa_nil ⟨(.list (ps.map pmD), ps), rfl, rfl, ⟨rfl, by show ps.length < 64; omega⟩, wa_nil ⟨_, rfl, lek rfl, rfl, rfl⟩⟩)))))))))
theorem gk_formed_rule (T : Tx K mg) : Gd P w K mg base CX0 3 "formed_rule" ["value", "places"] [] f_formed_rule := by
  obtain ⟨fd, F⟩ := T.F_formed_rule
  exact ⟨fd, [], fk_formed_rule T F, ⟨.nil, F.bindsN fun _ _ _ _ _ _ us hl => match us, hl with | [_, _], _ => rfl⟩, F.kp⟩
end
end K03

set_option Elab.async false
set_option linter.all false
set_option maxRecDepth 100000
set_option maxHeartbeats 4000000
/-! books as they are handed in -/
namespace Say
open PySem PySem.Spec PyProof.Rows L2
/-- makers and rules as they are handed in -/
structure BkIn where
  ms : List (Str × Nat)
  b : Bool
  rs : List RuleIn
  c : Bool
structure BkIn.Ok (a : BkIn) : Prop where
  ms : MksOk a.ms
  rs : ∀ r ∈ a.rs, RuleOk a.ms r
  few : a.rs.length ≤ 60
noncomputable def BkIn.fs (a : BkIn) : List (Str × Fd) := bookF (sortM a.ms) (sortR (a.rs.map RuleIn.rl))
def dOo : Option Dat → Bool
  | some (.o _ _) => true
  | _ => false
def dOi : Option Dat → Bool
  | some (.i _ _ _) => true
  | _ => false
theorem onlyO {ρ : Rho} {i : Nat} {D : Addr} (h : (ρ.set i none).all (fun e => !dOo e) = true) : ∀ (j : Nat) (ys : List PyData), j ≠ i → ρ[j]? ≠ some (some (.o D ys)) := fun j ys n e => by
  have m : some (Dat.o D ys) ∈ ρ.set i none := List.mem_of_getElem? (i := j) (by rw [List.getElem?_set_ne (Ne.symm n)]; exact e)
  have := List.all_eq_true.mp h _ m
  cases this
theorem onlyI {ρ : Rho} {i : Nat} {D : Addr} (h : (ρ.set i none).all (fun e => !dOi e) = true) : ∀ (j : Nat) (Cb : Addr) (ys : List (Str × Fd)), j ≠ i → ρ[j]? ≠ some (some (.i D Cb ys)) := fun j Cb ys n e => by
  have m : some (Dat.i D Cb ys) ∈ ρ.set i none := List.mem_of_getElem? (i := j) (by rw [List.getElem?_set_ne (Ne.symm n)]; exact e)
  have := List.all_eq_true.mp h _ m
  cases this
theorem sortM_nd {ms : List (Str × Nat)} (nd : (ms.map (·.1)).Nodup) : ((sortM ms).map (·.1)).Nodup := by
  have inj : ∀ {l : List (Str × Nat)}, (l.map (·.1)).Nodup → ∀ a ∈ l, ∀ b ∈ l, a.1 = b.1 → a = b := by
    intro l
    induction l with
    | nil => exact fun _ a ha => nomatch ha
    | cons m l ih =>
      intro h a ha b hb e
      obtain ⟨h1, h2⟩ := List.nodup_cons.mp h
      rcases List.mem_cons.mp ha with rfl | ha2 <;> rcases List.mem_cons.mp hb with rfl | hb2
      · rfl
      · exact absurd (List.mem_map.mpr ⟨_, hb2, e.symm⟩) h1
      · exact absurd (List.mem_map.mpr ⟨_, ha2, e⟩) h1
      · exact ih h2 a ha2 b hb2 e
  have n : (sortM ms).Nodup := (ordB_is (ranked_mk ms)).1.nodup
  exact List.pairwise_map.mpr (n.imp_of_mem fun ha hb ne e => ne (inj nd _ (mem_sortM.mp ha) _ (mem_sortM.mp hb) e))
theorem pairs_mk (ms : List (Str × Nat)) : ms.map mkD = (ms.map fun m => ((.inr m.1, .int (m.2 : Nat)) : Key × PyData)).map Say.pairD := by
  rw [List.map_map]
  rfl
theorem RuleOk.sort {ms : List (Str × Nat)} {r : RuleIn} (h : RuleOk ms r) : RuleOk (sortM ms) r := by
  obtain ⟨h1, h2, n, ds, h3, h4⟩ := h
  exact ⟨h1, h2, n, ds, mem_sortM.mpr h3, h4⟩
end Say

set_option Elab.async false
set_option linter.all false
set_option pp.maxSteps 1500
set_option pp.deepTerms false
set_option maxRecDepth 100000
set_option maxHeartbeats 8000000
namespace K03
open PySem PySem.Spec PyProof.Rows L2 Say
section
variable {P : Program} {w : World} {K : PySem.W.Frag} {mg : Str → Option Value} {base : Heap}
theorem sci_InvalidMakers : FnScope ["self", "at"] ["self", "at"] (defScope (inClass (top 3) 0)) := ⟨rfl, rfl, rfl, by decide +kernel, rfl, by decide +kernel, by decide +kernel⟩
theorem ini_InvalidMakers (T : Tx K mg) : ∃ fd, FnOk P w K mg base CX0 1 (He.ma K (He.ga K "InvalidMakers") "__init__") fd ["self", "at"] (spIni "at" (He.ga K "InvalidMakers")) ∧ Binds K fd ["self", "at"] [] := by
  obtain ⟨fd, F⟩ := T.F_InvalidMakers___init__
  refine ⟨fd, ?_, F.bindsN fun _ _ _ _ _ _ us hl => match us, hl with | [_, _], _ => rfl⟩
  refine F.ok sci_InvalidMakers (fun vs H Q E h => ?_) (fun cdv A ou s H vs Q E hr h => ?_)
  · obtain ⟨a, y, rfl, _⟩ := h
    rfl
  · obtain ⟨a, y, rfl, ha, k⟩ := h
    exact ⟨_, PSs.nox (pss_one (ps_est (pv 0) (pv 1))), _, rfl, _, rfl, a, He.ga K "InvalidMakers", rfl, T.E_InvalidMakers, T.n_InvalidMakers_at, .inl ⟨ha, fun dx n ne => k dx _ n ne (ini_end ne)⟩⟩
theorem sci_InvalidRules : FnScope ["self", "at"] ["self", "at"] (defScope (inClass (top 4) 0)) := ⟨rfl, rfl, rfl, by decide +kernel, rfl, by decide +kernel, by decide +kernel⟩
theorem ini_InvalidRules (T : Tx K mg) : ∃ fd, FnOk P w K mg base CX0 1 (He.ma K (He.ga K "InvalidRules") "__init__") fd ["self", "at"] (spIni "at" (He.ga K "InvalidRules")) ∧ Binds K fd ["self", "at"] [] := by
  obtain ⟨fd, F⟩ := T.F_InvalidRules___init__
  refine ⟨fd, ?_, F.bindsN fun _ _ _ _ _ _ us hl => match us, hl with | [_, _], _ => rfl⟩
  refine F.ok sci_InvalidRules (fun vs H Q E h => ?_) (fun cdv A ou s H vs Q E hr h => ?_)
  · obtain ⟨a, y, rfl, _⟩ := h
    rfl
  · obtain ⟨a, y, rfl, ha, k⟩ := h
    exact ⟨_, PSs.nox (pss_one (ps_est (pv 0) (pv 1))), _, rfl, _, rfl, a, He.ga K "InvalidRules", rfl, T.E_InvalidRules, T.n_InvalidRules_at, .inl ⟨ha, fun dx n ne => k dx _ n ne (ini_end ne)⟩⟩
noncomputable def fs_Book (a : BkIn) : List (Str × Say.Fd) := a.fs
noncomputable def f_Book_ini : FnA BkIn := fnF (fun a => [.d (seqOf a.b (a.ms.map mkD)), .d (seqOf a.c (a.rs.map RuleIn.d))]) BkIn.Ok (fun _ => .d .none)
def N_Book___init__ : List Str := ["self", "makers", "rules", "wrong", "places", "formed", "at", "value", "rule"]
theorem sc_Book___init__ : FnScope N_Book___init__ ["self", "makers", "rules"] (defScope (inClass (top 43) 0)) := ⟨rfl, rfl, rfl, by decide +kernel, rfl, by decide +kernel, by decide +kernel⟩
theorem fki_Book (T : Tx K mg) {fd : FuncData} (F : FunD K "__init__" "Book.__init__" (defArgs (inClass (top 43) 0)) (defBody (inClass (top 43) 0)) (defScope (inClass (top 43) 0)) [] [] (He.ma K (He.ga K "Book") "__init__") fd) : FnOk P w K mg base (L2.CX P w) 5 (He.ma K (He.ga K "Book") "__init__") fd ["self", "makers", "rules"] (spI K (He.ga K "Book") f_Book_ini fs_Book) := by
  obtain ⟨t__MOST_RULES, m__MOST_RULES⟩ := T.v__MOST_RULES
  obtain ⟨fdI_InvalidMakers, GI_InvalidMakers, bI_InvalidMakers⟩ := ini_InvalidMakers (P := P) (w := w) (base := base) T
  obtain ⟨fdI_InvalidRules, GI_InvalidRules, bI_InvalidRules⟩ := ini_InvalidRules (P := P) (w := w) (base := base) T
  refine iniA_ok F sc_Book___init__ (fun _ => rfl) (fun cdv A ou s H E hr => ⟨_, (pss_cons (ps_set (i := 3) sc_Book___init__.nd rfl (Or.inl rfl) (pe_gd (gk_wrong_maker T) (hr.mono (by decide)) rfl T.g_wrong_maker pass0 (pa_cons (pv 1) pa_nil)))
      (pss_cons (ps_if (pt_cmpR op_notN (pv 3) pe_non (nomark _))
      (pss_one (ps_raise rfl (takes_of rfl rfl rfl rfl) (pmk_e T.E_InvalidMakers T.I_InvalidMakers GI_InvalidMakers (hr.mono (by decide)) bI_InvalidMakers .nil pass0 T.c_InvalidMakers (pa_cons (pv 3) pa_nil))))
      pss_nil)
      (pss_cons (ps_fld (pv 0) (pe_gd (gk_makers_in_order T) (hr.mono (by decide)) rfl T.g_makers_in_order pass0 (pa_cons (pv 1) pa_nil)) rfl)
      (pss_cons (ps_if (pt_not (pt_val (pe_gd (gk_is_sequence T) (hr.mono (by decide)) rfl T.g_is_sequence pass0 (pa_cons (pv 2) pa_nil))))
      (pss_one (ps_raise rfl (takes_of rfl rfl rfl rfl) (pmk_e T.E_InvalidRules T.I_InvalidRules GI_InvalidRules (hr.mono (by decide)) bI_InvalidRules .nil pass0 T.c_InvalidRules (pa_cons (pe_un un_neg pe_int) pa_nil))))
      pss_nil)
      (pss_cons (ps_set (i := 4) sc_Book___init__.nd rfl (Or.inl rfl) (pe_callTy (show CallR _ _ (rDictT K) from cr_dictT rfl) (by rfl) T.b_dict (by decide +kernel) (pa_cons (pe_fld (pv 0) rfl) pa_nil)))
      (pss_cons (ps_set (i := 5) sc_Book___init__.nd rfl (Or.inl rfl) (pe_lst pa_nil))
      (pss_cons (ps_for (passes_of rfl) rfl (pi_enumSq (by rfl) T.b_enumerate (pa_cons (pv 2) pa_nil)) (pg_tup (by rfl) (pgs_cons (pg_name (i := 6) sc_Book___init__.nd rfl (Or.inl rfl)) (pgs_cons (pg_name (i := 7) sc_Book___init__.nd rfl (Or.inl rfl)) pgs_nil)))
      (pss_cons (ps_set (i := 8) sc_Book___init__.nd rfl (Or.inl rfl) (pe_gd (gk_formed_rule T) (hr.mono (by decide)) rfl T.g_formed_rule pass0 (pa_cons (pv 7) (pa_cons (pv 4) pa_nil))))
      (pss_cons (ps_if (PW.pt (pw_or (pt_cmpR op_isN (pv 8) pe_non (nomark _)) (pw_or1 (pt_cmpR op_eq (pv 6) (pe_glob (by rfl) m__MOST_RULES (show RelV (.int 60) (.int 60 t__MOST_RULES) from ⟨_, rfl⟩)) (nomark _)))))
      (pss_one (ps_raise rfl (takes_of rfl rfl rfl rfl) (pmk_e T.E_InvalidRules T.I_InvalidRules GI_InvalidRules (hr.mono (by decide)) bI_InvalidRules .nil pass0 T.c_InvalidRules (pa_cons (pv 6) pa_nil))))
      pss_nil)
      (pss_one (ps_expr (pe_bm PySem.F.plainAttrs_list PySem.F.slot_list_append PySem.F.type_list_append mt_append (pv 5) (pa_cons (pv 8) pa_nil)))))))
      (pss_one (ps_fld (pv 0) (pe_gd (gk_lot_ofR T) (hr.mono (by decide)) rfl T.g_lot_of pass0 (pa_cons (pv 5) pa_nil)) rfl))))))))), ?_⟩)
  rintro a bx X H1 D sb pre hE
  show WS K bx X H1 _ [some _, some _, some _, none, none, none, none, none, none] _ _ _ _
  obtain ⟨ms, b, rs, c⟩ := a
  obtain ⟨mo, ro, few60⟩ := pre
  replace mo : MksOk ms := mo
  replace ro : ∀ r ∈ rs, RuleOk ms r := ro
  replace few60 : rs.length ≤ 60 := few60
  refine ws_seq (ws_asg (w_callF (wa_cons (w_var rfl (wa_nil ⟨(ms, b), rfl, rfl, mo, rfl, ?_⟩)))))
  refine ws_seq (ws_if (wt_test (w_notN (w_var rfl (w_non ⟨true, rfl, rfl, _, rfl, (fun c => nomatch c), fun _ => ws_next ?_⟩)))))
  refine ws_seq (ws_fld T.k_Book T.a_Book_makers rfl (onlyI rfl) (by decide) (w_callF (wa_cons (w_var rfl (wa_nil ⟨(ms, b), rfl, rfl, mo, _, rfl, ?_⟩)))))
  refine ws_seq (ws_if (wt_not (wt_b (w_callF (wa_cons (w_var rfl (wa_nil ⟨(seqOf c (rs.map RuleIn.d), true), rfl, rfl, trivial, _, rfl, fun z => ?_, fun _ => ws_next ?_⟩)))))))
  · have z' : (!seqB2 true (seqOf c (rs.map RuleIn.d))) = true := z
    rw [seqOf_B] at z'
    cases z'
  refine ws_seq (ws_asg (w_dict (wa_cons (w_fld T.k_Book T.a_Book_makers (w_var rfl ⟨_, .pt ((sortM ms).map mkD), rfl, rfl, wa_nil ⟨_, congrArg (fun l => [Dat.pt l]) (pairs_mk _), rfl, ?_⟩⟩)))))
  refine ws_seq (ws_own (wf_lst (wa_nil ⟨[], rfl, lek rfl, fun D2 hD => ?_⟩)))
  refine ws_forS [6, 7] [6, 7, 8] (wi_en (wa_cons (w_var rfl (wa_nil ⟨_, _, rs.map RuleIn.d, rfl, rfl, seqOf_seq c _, fun i ρ' => ρ' = [some (.i D (He.ga K "Book") [("makers", .pt ((sortM ms).map mkD))]), some (.d (seqOf b (ms.map mkD))), some (.d (seqOf c (rs.map RuleIn.d))), some (.d .none), some (.fm (placesK (sortM ms))), some (.o D2 ((rs.take i).map fun r => rlD r.rl)), none, none, none], rfl, ?_, ?_⟩))))
  · rintro i z ρ' hz rfl
    rw [List.getElem?_mapIdx, List.getElem?_map] at hz
    obtain ⟨y, hy, rfl⟩ := Option.map_eq_some_iff.mp hz
    obtain ⟨r, hr2, rfl⟩ := Option.map_eq_some_iff.mp hy
    have ro2 := (ro r (List.mem_of_getElem? hr2)).sort
    have il : i < rs.length := (List.getElem?_eq_some_iff.mp hr2).1
    refine wg_tup rfl rfl (wgs_cons (wg_name (by decide) (wgs_cons (wg_name (by decide) (wgs_nil ?_)))))
    refine ws_seq (ws_asg (w_callF (wa_cons (w_var rfl (wa_cons (w_var rfl (wa_nil ⟨(r, sortM ms), rfl, rfl, ⟨sortM_nd mo.nd, ro2⟩, rfl, ?_⟩)))))))
    refine ws_seq (ws_if (wt_or (wt_test (w_isN (w_var rfl (w_non ⟨false, rfl, rfl, _, rfl, (fun c => nomatch c), fun _ => wt_test (w_eqI (w_var rfl (w_cdat ⟨_, 60, rfl, rfl, _, rfl, fun c => ?_, fun _ => ws_next ?_⟩)))⟩))))))
    · exfalso
      have := of_decide_eq_true c
      omega
    · refine ws_append rfl (onlyO rfl) (by rw [List.length_map, List.length_take]; omega) (wa_cons (w_var rfl (wa_nil ⟨_, rlD r.rl, rfl, rfl, ?_⟩)))
      have e : (rs.take (i + 1)).map (fun r => rlD r.rl) = (rs.take i).map (fun r => rlD r.rl) ++ [rlD r.rl] := by
        rw [List.take_succ, hr2, List.map_append]
        rfl
      show _ = _
      rw [e]
      rfl
  · rintro ρ' rfl
    rw [List.length_mapIdx, List.length_map, List.take_length]
    refine ws_frz (i := 5) rfl (onlyO rfl) (ws_fld T.k_Book T.a_Book_rules rfl (onlyI rfl) (lek rfl) (w_callF (wa_cons (w_var rfl (wa_nil ⟨(.list (rs.map fun r => rlD r.rl), rs.map RuleIn.rl), rfl, rfl, ⟨?_, by rw [List.length_map]; omega⟩, _, rfl, rfl⟩)))))
    show some (rs.map fun r => rlD r.rl) = some ((rs.map RuleIn.rl).map rlD)
    rw [List.map_map]
    rfl
theorem gi_Book (T : Tx K mg) : GmS P w K mg base (L2.CX P w) 5 (He.ga K "Book") "__init__" ["self", "makers", "rules"] (spI K (He.ga K "Book") f_Book_ini fs_Book) := by
  obtain ⟨fd, F⟩ := T.F_Book___init__
  exact ⟨fd, fki_Book T F, F.bindsN fun _ _ _ _ _ _ us hl => match us, hl with | [_, _, _], _ => rfl⟩
end
end K03

set_option Elab.async false
set_option linter.all false
set_option maxRecDepth 100000
set_option maxHeartbeats 4000000
/-! list(enumerate(t)), t a tuple -/
namespace Say
open PySem PySem.Spec PyProof.Rows L2
theorem en_nolen : typeLookup (.type "enumerate") "__len__" = pure none := (typeLookup_type ..).trans (by rw [builtinLookup_eq_fast]; kernel_rfl)
theorem en_nohint : typeLookup (.type "enumerate") "__length_hint__" = pure none := (typeLookup_type ..).trans (by rw [builtinLookup_eq_fast]; kernel_rfl)
section
variable {prog : Program} {w : World} {A : Around} {E : Value → Shared → Prop} {s : Shared} {en ji T : Addr} {fp : List Addr} {n i : Nat} {P : Nat → Value → Prop} {St : Nat → Heap → Prop} {old : Value} {f : Bool} {oT : Obj}
theorem en_held {Q : Value → Shared → Prop} (D : Draws prog w A ji fp n P St) (he : IsEnumHeld s.heap en ji i old T f) (hT : s.heap.get? T = some oT) (n1 : T ≠ en) (n2 : T ≠ ji) (hst : St i s.heap) (hlt : i < n) (hne : en ≠ ji) (hef : en ∉ fp)
    (hQ : ∀ x G tk, P i x → IsEnumHeld G en ji ((i : Int) + 1) old T true → St (i + 1) G → G.get? s.heap.objs.size = some { cls := .type "tuple", data := .seq #[.int i tk, x] } → G.objs.size = s.heap.objs.size + 1 →
      (∀ b o, b ≠ en → b ≠ ji → s.heap.get? b = some o → G.get? b = some o) → Q (.ref s.heap.objs.size) { s with heap := G, toks := tk + 1 }) :
    wpAny (model prog w) A (Builtin.«enumerate.__next__» ⟨[.ref en], []⟩) (fun fin s' => ∃ v, fin = .done (.ret v) ∧ Q v s') E s := by
  obtain ⟨hp, gg, dr, tk0, os⟩ := s
  show wpAny _ _ (field (.ref en) 2 >>= _) _ _ _
  refine wpAny_bind (wpAny_field he rfl (x := .ref ji) rfl ?_)
  refine wpAny_bind (D.item i _ _ _ hlt hst fun x G1 tk hPx st1 sb1 => ?_)
  replace sb1 : Heap.SameBut ji hp G1 := sb1
  have e1 : IsEnumHeld G1 en ji i old T f := (sb1.2 en hne).trans he
  show wpAny _ _ (field (.ref en) 3 >>= _) _ _ ⟨G1, gg, dr, tk, os⟩
  refine wpAny_bind (wpAny_field e1 rfl (x := rawInt i) rfl ?_)
  show wpAny _ _ (field (.ref en) 4 >>= _) _ _ ⟨G1, gg, dr, tk, os⟩
  refine wpAny_bind (wpAny_field e1 rfl (x := .none) rfl ?_)
  show wpAny _ _ (mkInt i >>= _) _ _ ⟨G1, gg, dr, tk, os⟩
  refine wpAny_bind (m := mkInt i) (wpAny_mkInt ?_)
  show wpAny _ _ (setField (.ref en) 3 (rawInt ((i : Int) + 1)) >>= _) _ _ ⟨G1, gg, dr, tk + 1, os⟩
  refine wpAny_bind (wpAny_setField_rec e1 (by simp) fun G2 e2 sb2 => ?_)
  replace sb2 : Heap.SameBut en G1 G2 := sb2
  replace e2 : IsEnumHeld G2 en ji ((i : Int) + 1) old T f := e2
  show wpAny _ _ (setField (.ref en) 4 .none >>= _) _ _ ⟨G2, gg, dr, tk + 1, os⟩
  refine wpAny_bind (wpAny_setField_rec e2 (by simp) fun G3 e3 sb3 => ?_)
  replace sb3 : Heap.SameBut en G2 G3 := sb3
  replace e3 : IsEnumHeld G3 en ji ((i : Int) + 1) old T f := e3
  show wpAny _ _ (newTuple [.int i tk, x] >>= _) _ _ ⟨G3, gg, dr, tk + 1, os⟩
  refine wpAny_bind (m := newTuple _) (wpAny_newTuple ?_)
  have e4 : IsEnumHeld (G3.push { cls := .type "tuple", data := .seq #[.int i tk, x] }) en ji ((i : Int) + 1) old T f := Heap.get?_push_of_some _ e3
  generalize q4 : G3.push { cls := .type "tuple", data := .seq #[.int i tk, x] } = G4 at e4
  have sz : G3.objs.size = hp.objs.size := by rw [sb3.1, sb2.1, sb1.1]
  have le : en < hp.objs.size := Heap.lt_size he
  have t4 : G4.get? hp.objs.size = some { cls := .type "tuple", data := .seq #[.int i tk, x] } := by rw [← q4, ← sz]; exact Heap.get?_push_size _ rfl
  have z4 : G4.objs.size = hp.objs.size + 1 := by rw [← q4, Heap.size_push, sz]
  have k4 : ∀ b o, b ≠ en → b ≠ ji → hp.get? b = some o → G4.get? b = some o := fun b o u1 u2 u3 => by
    rw [← q4]
    exact Heap.get?_push_of_some _ (sb3.extBut b o u1 (sb2.extBut b o u1 (sb1.extBut b o u2 u3)))
  have s4 : St (i + 1) G4 := D.frame _ _ _ st1 fun b hb o y => by
    have u1 : b ≠ en := fun q => hef (q ▸ hb)
    rw [← q4]
    exact Heap.get?_push_of_some _ (sb3.extBut b o u1 (sb2.extBut b o u1 y))
  show wpAny _ _ (Builtin.SmallTypes.ownedTupleIsFree (.ref en) >>= _) _ _ ⟨G4, gg, dr, tk + 1, os⟩
  rw [sz]
  clear q4 e3 sb3 e2 sb2 e1 sb1 st1 sz G3 G2 G1
  refine wpAny_bind (wpAny_tupleHeld_enum (s := ⟨G4, gg, dr, tk + 1, os⟩) e4 (k4 T oT n1 n2 hT) fun G5 e5 sb5 => ?_)
  replace sb5 : Heap.SameBut en G4 G5 := sb5
  simp only [Bool.false_eq_true, if_false]
  refine wpAny_pure ⟨_, rfl, hQ x G5 tk hPx e5 (D.frame _ _ _ s4 fun b hb o y => sb5.extBut b o (fun q => hef (q ▸ hb)) y) (sb5.extBut _ _ (Nat.ne_of_gt le) t4) ?_ fun b o u1 u2 u3 => sb5.extBut b o u1 (k4 b o u1 u2 u3)⟩
  show G5.objs.size = hp.objs.size + 1
  rw [sb5.1, z4]
theorem en_next {Q : Option Value → Shared → Prop} (D : Draws prog w A.in1 ji fp n P St) (he : IsEnumHeld s.heap en ji i old T f) (hT : s.heap.get? T = some oT) (n1 : T ≠ en) (n2 : T ≠ ji) (hst : St i s.heap) (hlt : i < n) (hne : en ≠ ji) (hef : en ∉ fp)
    (hQ : ∀ x G tk, P i x → IsEnumHeld G en ji ((i : Int) + 1) old T true → St (i + 1) G → G.get? s.heap.objs.size = some { cls := .type "tuple", data := .seq #[.int i tk, x] } → G.objs.size = s.heap.objs.size + 1 →
      (∀ b o, b ≠ en → b ≠ ji → s.heap.get? b = some o → G.get? b = some o) → Q (some (.ref s.heap.objs.size)) { s with heap := G, toks := tk + 1 }) :
    wpAny (model prog w) A (pyNext (.ref en)) Q E s := by
  have ty : s.TypeIs (.ref en) "enumerate" := ⟨_, he, rfl⟩
  unfold pyNext
  exact wpAny_bind (wpAny_attempt (wpAny_callSpecial?_slot (name := Str.ofString "__next__") ty F.slot_enumerate_next (wpAny_call_entry F.slot_enumerate_next ty F.entry_enumerate_next
    (en_held D he hT n1 n2 hst hlt hne hef fun x G tk a b c d k q => wpAny_pure (hQ x G tk a b c d k q)) (F.args_enumerate_next_1 _))))
theorem en_end {x y z u v : Value} {Q : Option Value → Shared → Prop} (D : Draws prog w A.in1 ji fp n P St) (he : s.heap.get? en = some { cls := .type "enumerate", dict := none, data := .fields #[x, y, .ref ji, z, u, v], slots := #[] }) (hst : St n s.heap)
    (hQ : ∀ G, Heap.ExtBut ji s.heap G → Q none { s with heap := G }) : wpAny (model prog w) A (pyNext (.ref en)) Q E s := by
  have ty : s.TypeIs (.ref en) "enumerate" := ⟨_, he, rfl⟩
  unfold pyNext
  refine wpAny_bind (wpAny_attempt (wpAny_callSpecial?_slot (name := Str.ofString "__next__") ty F.slot_enumerate_next (wpAny_call_entry F.slot_enumerate_next ty F.entry_enumerate_next ?_ (F.args_enumerate_next_1 _))))
  show wpAny _ _ (field (.ref en) 2 >>= _) _ _ s
  refine wpAny_bind (wpAny_field he rfl (x := .ref ji) rfl ?_)
  refine wpAny_bind (D.done _ _ _ hst fun G a hG ha => ?_)
  obtain ⟨oa, h1, h2⟩ := ha
  exact wpAny_bind (wpAny_isInstance (T := "StopIteration") (b := true) ⟨oa, h1, h2⟩ isSubtype_stop (wpAny_pure (hQ _ hG)))
/-- enumerate amid its walk; S: where the list is made -/
def EnSt (h : Heap) (en ji S : Addr) (i : Nat) : Prop := (∃ o, IsEnum h en ji (i : Nat) o) ∨ ∃ o T f oT, IsEnumHeld h en ji (i : Nat) o T f ∧ h.get? T = some oT ∧ T ≠ en ∧ T ≠ ji ∧ T ≠ S
theorem EnSt.keep {h h' : Heap} {S : Addr} (x : EnSt h en ji S i) (hk : ∀ b o, b ≠ S → h.get? b = some o → h'.get? b = some o) (hS : en ≠ S) : EnSt h' en ji S i := by
  rcases x with ⟨o, h1⟩ | ⟨o, T, f, oT, h1, h2, h3, h4, h5⟩
  · exact .inl ⟨o, hk _ _ hS h1⟩
  · exact .inr ⟨o, T, f, oT, hk _ _ hS h1, hk _ _ h5 h2, h3, h4, h5⟩
theorem en_item {S : Addr} {Q : Option Value → Shared → Prop} (D : Draws prog w A.in1 ji fp n P St) (hs : EnSt s.heap en ji S i) (hS : S < s.heap.objs.size) (lj : ji < s.heap.objs.size) (hst : St i s.heap) (hlt : i < n) (hne : en ≠ ji) (hef : en ∉ fp)
    (hQ : ∀ x G tk, P i x → EnSt G en ji S (i + 1) → St (i + 1) G → G.get? s.heap.objs.size = some { cls := .type "tuple", data := .seq #[.int i tk, x] } → G.objs.size = s.heap.objs.size + 1 →
      (∀ b o, b ≠ en → b ≠ ji → s.heap.get? b = some o → G.get? b = some o) → Q (some (.ref s.heap.objs.size)) { s with heap := G, toks := tk + 1 }) :
    wpAny (model prog w) A (pyNext (.ref en)) Q E s := by
  have c : ((i + 1 : Nat) : Int) = (i : Int) + 1 := by omega
  rcases hs with ⟨o, h1⟩ | ⟨o, T, f, oT, h1, h2, h3, h4, h5⟩
  · refine wpAny_pyNext_enum_itemD D h1 hst hlt hne hef fun x G tk hP ho st ht hz hk => hQ x G tk hP (.inr ⟨x, _, false, _, ?_, ht, Nat.ne_of_gt (Heap.lt_size h1), Nat.ne_of_gt lj, Nat.ne_of_gt hS⟩) st ht hz hk
    rw [c]
    exact ho
  · refine en_next D h1 h2 h3 h4 hst hlt hne hef fun x G tk hP ho st ht hz hk => hQ x G tk hP (.inr ⟨o, T, true, oT, ?_, hk _ _ h3 h4 h2, h3, h4, h5⟩) st ht hz hk
    rw [c]
    exact ho
end
/-- the pairs (0, x), (1, y), .. at the addresses -/
structure EnG (xs : List Value) (lo : Addr) (h : Heap) (as : List Addr) : Prop where
  rise : as.Pairwise (· < ·)
  above : ∀ a ∈ as, lo < a
  pairs : ∀ (j : Nat) (a : Addr), as[j]? = some a → ∃ t x, xs[j]? = some x ∧ h.get? a = some { cls := .type "tuple", data := .seq #[.int j t, x] }
theorem EnG.there {xs : List Value} {lo a : Addr} {h : Heap} {as : List Addr} (g : EnG xs lo h as) (ha : a ∈ as) : a < h.objs.size := by
  obtain ⟨j, hj⟩ := List.mem_iff_getElem?.mp ha
  obtain ⟨_, _, _, e⟩ := g.pairs j a hj
  exact Heap.lt_size e
end Say

set_option Elab.async false
set_option linter.all false
set_option maxRecDepth 100000
set_option maxHeartbeats 4000000
namespace Say
open PySem PySem.Spec PyProof.Rows L2
section
variable {prog : Program} {w : World} {A : Around} {s : Shared} {R : Result → Shared → Prop} {xs : List Value}
theorem en_loop {S en ji t : Addr} (hh : A.handled = none) (hES : en < S) (hjS : ji < S) (hne : en ≠ ji) (htj : t ≠ ji) (hte : en ≠ t) (htS : t ≠ S) (hn : xs.length ≤ sizeLine) (res : Value) {G0 : Heap}
    (hR : ∀ G tk acc c as, (∀ b o, b ≠ S → b ≠ en → b ≠ ji → G0.get? b = some o → G.get? b = some o) → G.get? S = some { cls := .type "list", dict := none, data := .seq acc c, slots := #[] } → as.length = xs.length → EnG xs S G as →
      acc.toList = as.map Value.ref → R (.ok (.ret res)) { s with heap := G, toks := tk }) :
    ∀ (k i : Nat) (h : Heap) (tk c : Nat) (acc : Array Value) (as : List Addr), xs.length - i = k → i ≤ xs.length → EnSt h en ji S i → h.IsTupleIter ji t i → h.IsTuple t xs.toArray → (∀ b o, b ≠ S → b ≠ en → b ≠ ji → G0.get? b = some o → h.get? b = some o) →
      h.get? S = some { cls := .type "list", dict := none, data := .seq acc c, slots := #[] } → acc.toList = as.map Value.ref → as.length = i → EnG xs S h as →
      codeAny (model prog w) A (.builtin "list.extend.loop" ⟨[.ref S, .ref en, res], []⟩) R { s with heap := h, toks := tk } := by
  have D := Draws.tuple (prog := prog) (w := w) (A := A.in1.in1) hh ji t htj xs.toArray
  have nES : S ≠ en := Nat.ne_of_gt hES
  have njS : S ≠ ji := Nat.ne_of_gt hjS
  intro k
  induction k with
  | zero =>
    intro i h tk c acc as hk hi he hit htt hkeep hS hacc hal hG
    have hin : i = xs.toArray.size := by rw [List.size_toArray]; omega
    refine codeAny_builtin F.entry_extend_loop ?_
    rw [Around.under_plainId F.plain_extend_loop]
    show wpAny _ A.in1 (pyNext (.ref en) >>= _) _ _ _
    have fin : ∀ G : Heap, Heap.ExtBut ji h G → R (.ok (.ret res)) { s with heap := G, toks := tk } := fun G ex => hR G tk acc c as (fun b o h1 h2 h3 e => ex b o h3 (hkeep b o h1 h2 h3 e)) (ex S _ njS hS) (by rw [List.size_toArray] at hin; omega) ⟨hG.rise, hG.above, fun j a hj => by
      obtain ⟨t2, x, e1, e2⟩ := hG.pairs j a hj
      exact ⟨t2, x, e1, ex a _ (Nat.ne_of_gt (Nat.lt_trans hjS (hG.above a (List.mem_of_getElem? hj)))) e2⟩⟩ hacc
    rcases he with ⟨o, h1⟩ | ⟨o, T, f, oT, h1, _⟩
    · exact wpAny_bind (en_end (s := { s with heap := h, toks := tk }) D h1 (by rw [← hin]; exact ⟨hit, htt⟩) fun G ex => wpAny_pure (fin G ex))
    · exact wpAny_bind (en_end (s := { s with heap := h, toks := tk }) D h1 (by rw [← hin]; exact ⟨hit, htt⟩) fun G ex => wpAny_pure (fin G ex))
  | succ k ih =>
    intro i h tk c acc as hk hi he hit htt hkeep hS hacc hal hG
    have hlt : i < xs.toArray.size := by rw [List.size_toArray]; omega
    have hsz : acc.size = i := by rw [← Array.length_toList, hacc, List.length_map, hal]
    have lS : S < h.objs.size := Heap.lt_size hS
    refine codeAny_builtin F.entry_extend_loop ?_
    rw [Around.under_plainId F.plain_extend_loop]
    show wpAny _ A.in1 (pyNext (.ref en) >>= _) _ _ _
    refine wpAny_bind (en_item (s := { s with heap := h, toks := tk }) (S := S) D he lS (Nat.lt_trans hjS lS) ⟨hit, htt⟩ hlt hne (by simp [hne, hte]) fun x G tk2 hP he2 st2 ht hz hkp => ?_)
    dsimp only at ht hz hkp ⊢
    have hS2 := hkp S _ nES njS hS
    have up : ∀ b o, b ≠ S → G.get? b = some o → (G.update S (Obj.mapSeq (·.push (Value.ref h.objs.size)))).get? b = some o := fun b o hb e => (Heap.get?_update_other _ _ (Ne.symm hb)).trans e
    have hx : xs[i]? = some x := by
      have y : xs.toArray[i]? = some x := hP
      rwa [List.getElem?_toArray] at y
    show wpAny _ A.in1 (updateSeq S (·.push (Value.ref h.objs.size)) >>= _) _ _ _
    refine wpAny_bind (wpAny_updateSeq hS2 rfl (wpAny_pure ⟨plainId_quiet F.plain_extend_loop _, ?_⟩) (by rw [hsz]; rw [List.size_toArray] at hlt; omega) (by show (acc.push (Value.ref h.objs.size)).size ≤ sizeLine + 1; rw [Array.size_push, hsz]; rw [List.size_toArray] at hlt; omega))
    refine ih (i + 1) _ (tk2 + 1) _ (acc.push (Value.ref h.objs.size)) (as ++ [h.objs.size]) (by omega) (by rw [List.size_toArray] at hlt; omega) (he2.keep up nES.symm) (st2.1.at fun o e => up _ o njS.symm e) (st2.2.at fun o e => up _ o htS e)
      (fun b o h1 h2 h3 e => up b o h1 (hkp b o h2 h3 (hkeep b o h1 h2 h3 e))) (Heap.get?_update_self _ hS2 rfl) (by rw [Array.toList_push, hacc, List.map_append]; rfl) (by rw [List.length_append, hal]; rfl) ⟨?_, ?_, ?_⟩
    · refine List.pairwise_append.mpr ⟨hG.rise, List.pairwise_singleton _ _, fun a ha b hb => ?_⟩
      rw [List.mem_singleton.mp hb]
      exact hG.there ha
    · intro a ha
      rcases List.mem_append.mp ha with ha2 | ha2
      · exact hG.above a ha2
      · rw [List.mem_singleton.mp ha2]
        exact lS
    · intro j b hj
      rcases Nat.lt_trichotomy j as.length with h1 | h1 | h1
      · rw [List.getElem?_append_left h1] at hj
        obtain ⟨t2, x2, e1, e2⟩ := hG.pairs j b hj
        have hb := hG.above b (List.mem_of_getElem? hj)
        exact ⟨t2, x2, e1, up b _ (Nat.ne_of_gt hb) (hkp b _ (Nat.ne_of_gt (Nat.lt_trans hES hb)) (Nat.ne_of_gt (Nat.lt_trans hjS hb)) e2)⟩
      · subst h1
        have hb : h.objs.size = b := by simpa using hj
        subst hb
        exact ⟨tk2, x, by rw [hal]; exact hx, up _ _ (Nat.ne_of_gt lS) (by rw [hal]; exact ht)⟩
      · have no : (as ++ [h.objs.size])[j]? = none := List.getElem?_eq_none (by rw [List.length_append, List.length_singleton]; omega)
        rw [no] at hj
        cases hj
end
section
variable {prog : Program} {w : World} {A : Around} {E : Value → Shared → Prop} {s : Shared} {xs : List Value} {en ji t : Addr}
theorem en_call {Q : Value → Shared → Prop} (hh : A.handled = none) (he : IsEnum s.heap en ji 0 .none) (hit : s.heap.IsTupleIter ji t 0) (htt : s.heap.IsTuple t xs.toArray) (hne : en ≠ ji) (htj : t ≠ ji) (hte : en ≠ t) (hn : xs.length ≤ sizeLine)
    (hQ : ∀ G tk acc c as, (∀ b o, b ≠ en → b ≠ ji → s.heap.get? b = some o → G.get? b = some o) → G.get? s.heap.objs.size = some { cls := .type "list", dict := none, data := .seq acc c, slots := #[] } → as.length = xs.length → EnG xs s.heap.objs.size G as →
      acc.toList = as.map Value.ref → Q (.ref s.heap.objs.size) { s with heap := G, toks := tk }) : wpAny (model prog w) A (call (.type "list") [.ref en]) Q E s := by
  have le : en < s.heap.objs.size := Heap.lt_size he
  have lj : ji < s.heap.objs.size := let ⟨_, q, _⟩ := hit; Heap.lt_size q
  have lt : t < s.heap.objs.size := let ⟨_, q, _⟩ := htt; Heap.lt_size q
  refine callType_codes (Q₁ := fun obj z => obj = .ref s.heap.objs.size ∧ z = { s with heap := s.heap.push { cls := .type "list", data := .seq #[] } }) F.called_list (F.typeCall_list_1 _) F.entry_list_init (code_list_new _ ⟨rfl, rfl⟩) fun obj z hz => ?_
  obtain ⟨rfl, rfl⟩ := hz
  have hS : (s.heap.push { cls := .type "list", data := .seq #[] }).get? s.heap.objs.size = some { cls := .type "list", data := .seq #[] } := Heap.get?_push_size s.heap rfl
  refine ⟨⟨_, hS, rfl⟩, F.args_list_init_2 _ _, ?_⟩
  show wpAny _ A.in1.in1 (do let old ← Builtin.List.listItems (.ref s.heap.objs.size); Builtin.List.listUpdate (.ref s.heap.objs.size) (fun _ => #[]); letGo old.toList.reverse; Builtin.List.listExtendWith (.ref s.heap.objs.size) (.ref en) .none) _ _ _
  refine wpAny_bind ?_
  unfold Builtin.List.listItems
  refine wpAny_bind (m := seqItems? _) (wpAny_seqItems hS rfl (wpAny_pure ?_))
  show wpAny _ A.in1.in1 (updateSeq s.heap.objs.size (fun _ => #[]) >>= fun _ => letGo (#[] : Array Value).toList.reverse >>= fun _ => Builtin.List.listExtendWith (.ref s.heap.objs.size) (.ref en) .none) _ _ _
  refine wpAny_bind (m := updateSeq s.heap.objs.size _) (wpAny_updateSeq hS rfl ?_)
  have hS2 := Heap.get?_update_self (Obj.mapSeq (fun _ => (#[] : Array Value))) hS (by rfl)
  refine wpAny_bind (m := letGo _) (wpAny_letGo ?_)
  unfold Builtin.List.listExtendWith
  have up : ∀ (h : Heap) (f : Obj → Obj), (∀ b o, s.heap.get? b = some o → h.get? b = some o) → ∀ b o, s.heap.get? b = some o → (h.update s.heap.objs.size f).get? b = some o := fun h f q b o e => (Heap.get?_update_other h f (Nat.ne_of_gt (Heap.lt_size e))).trans (q b o e)
  have k1 : ∀ b o, s.heap.get? b = some o → (s.heap.push { cls := .type "list", data := .seq #[] }).get? b = some o := fun b o e => Heap.get?_push_of_some _ e
  have k2 := up _ (Obj.mapSeq (fun _ => (#[] : Array Value))) k1
  have ty : ∀ {z : Shared}, (∀ b o, s.heap.get? b = some o → z.heap.get? b = some o) → z.TypeIs (.ref en) "enumerate" := fun q => ⟨_, q _ _ he, rfl⟩
  refine wpAny_bind (wpAny_typeOf (T := "enumerate") (ty k2) ?_)
  have c1 : Builtin.List.listSameRef (.ref s.heap.objs.size) (.ref en) = false := by simp [Builtin.List.listSameRef, Nat.ne_of_gt le]
  have c2 : (Value.type "enumerate" == Value.type "list") = false := by decide
  have c3 : (Value.type "enumerate" == Value.type "tuple") = false := by decide
  simp only [c1, c2, c3, Bool.or_false, Bool.false_eq_true, if_false]
  refine wpAny_bind (wpAny_pyIter_enum (k2 _ _ he) ?_)
  refine wpAny_bind (m := holding _ _) (wpAny_holding ?_)
  unfold Builtin.List.listLengthHint
  refine wpAny_bind (wpAny_specialOf (ty k2) en_nolen ?_)
  show wpAny _ A.in1.in1 (specialOf (Value.ref en) (Str.ofString "__length_hint__") >>= _) _ _ _
  refine wpAny_bind (wpAny_specialOf (ty k2) en_nohint (wpAny_pure ?_))
  show wpAny _ A.in1.in1 (rule "list.extend.makes-room" >>= fun _ => Builtin.List.listTouch (.ref s.heap.objs.size) >>= fun _ => again (.builtin "list.extend.loop" ⟨[.ref s.heap.objs.size, .ref en, .none], []⟩)) _ _ _
  refine wpAny_bind (m := rule _) (wpAny_rule (wpAny_bind ?_))
  show wpAny _ A.in1.in1 (updateSeq s.heap.objs.size (·.push .none) >>= fun _ => updateSeq s.heap.objs.size (·.pop)) _ _ _
  refine wpAny_bind (m := updateSeq _ _) (wpAny_updateSeq hS2 rfl ?_)
  have hS3 := Heap.get?_update_self (Obj.mapSeq (·.push Value.none)) hS2 (by rfl)
  refine wpAny_updateSeq (hz := by seq_fits) hS3 (by rfl) ?_
  have hS4 := Heap.get?_update_self (Obj.mapSeq (·.pop)) hS3 (by rfl)
  have k4 := up _ (Obj.mapSeq (·.pop)) (up _ (Obj.mapSeq (·.push Value.none)) k2)
  refine wpAny_pure ⟨plainId_quiet F.plain_extend_loop _, ?_⟩
  exact en_loop (s := s) (A := A.in1) hh le lj hne htj hte (Nat.ne_of_lt lt) hn .none (G0 := s.heap) (fun G tk acc c as hk hS' hl hG hacc => ⟨rfl, hQ G tk acc c as (fun b o h1 h2 e => hk b o (Nat.ne_of_lt (Heap.lt_size e)) h1 h2 e) hS' hl hG hacc⟩)
    xs.length 0 _ s.toks _ #[] [] (Nat.sub_zero _) (Nat.zero_le _) (.inl ⟨_, k4 _ _ he⟩) (hit.at fun o e => k4 _ o e) (htt.at fun o e => k4 _ o e) (fun b o _ _ _ e => k4 b o e) hS4 rfl rfl ⟨List.Pairwise.nil, (fun _ ha => nomatch ha), fun j a hj => by simp at hj⟩
end
end Say

set_option Elab.async false
set_option linter.all false
set_option maxRecDepth 100000
set_option maxHeartbeats 4000000
namespace Say
open PySem PySem.Spec PyProof.Rows L2
/-- the numbered pairs tracked at their addresses -/
def layE : Hp → Nat → List Addr → List V → Hp
  | H, j, q :: qs, y :: ys => layE (upd H q (.tup [.int (j : Nat), y])) (j + 1) qs ys
  | H, _, _, _ => H
theorem layE_off {b : Addr} : ∀ (qs : List Addr) (ys : List V) (j : Nat) (H : Hp), b ∉ qs → layE H j qs ys b = H b
  | [], _, _, _, _ => rfl
  | _ :: _, [], _, _, _ => rfl
  | q :: qs, y :: ys, j, H, h => (layE_off qs ys (j + 1) _ fun z => h (List.mem_cons_of_mem _ z)).trans (upd_ne fun z => h (by rw [z]; exact List.mem_cons_self))
theorem layE_at : ∀ (qs : List Addr) (ys : List V) (j : Nat) (H : Hp), qs.length = ys.length → qs.Nodup → ∀ (i : Nat) (q : Addr), qs[i]? = some q → ∃ y, ys[i]? = some y ∧ layE H j qs ys q = some (.tup [.int ((j + i : Nat) : Int), y])
  | [], _, _, _, _, _, _, _, h => by cases h
  | _ :: _, [], _, _, h, _, _, _, _ => by cases h
  | q :: qs, y :: ys, j, H, hl, hn, i, r, hi => by
    obtain ⟨n1, n2⟩ := List.nodup_cons.mp hn
    cases i with
    | zero =>
      cases hi
      exact ⟨y, rfl, (layE_off qs ys (j + 1) _ n1).trans upd_same⟩
    | succ i =>
      obtain ⟨z, h1, h2⟩ := layE_at qs ys (j + 1) (upd H q (.tup [.int (j : Nat), y])) (Nat.succ.inj hl) n2 i r hi
      refine ⟨z, h1, ?_⟩
      have e : j + 1 + i = j + (i + 1) := by omega
      rw [e] at h2
      exact h2
def rLstEn (K : PySem.W.Frag) : V → Hp → VK → Prop := fun x H Q => ∃ a ys, x = .ref a ∧ SqT K H a ys ∧
  ∀ (H' : Hp) (p : Addr) (ts : List Addr), Same H H' → H p = none → (∀ t ∈ ts, H t = none) → H' p = some (.lst (ts.map V.ref)) → ts.length = ys.length → (∀ j t, ts[j]? = some t → ∃ y, ys[j]? = some y ∧ H' t = some (.tup [.int (j : Nat), y])) → Q (.ref p) H'
def tLstEn (K : PySem.W.Frag) (te : TE) : TE := fun σ H Q => te σ H fun x H1 => rLstEn K x H1 Q
section
variable {X : Cx} {e : Expr} {te : TE} {p q pos cpos : Pos}
theorem en_laid {pins : List (Addr × Obj)} {σ : L2.St} {H : Hp} {s : Shared} {G : Heap} {tk : Nat} {ys : List V} {us : List Value} {acc : Array Value} {c : Nat} {as : List Addr} {S : Addr} (I : Inv X pins σ H s) (hz : ys.length ≤ sizeLine) (kv : Vals ys us) (lS : s.heap.objs.size ≤ S)
    (hk : ∀ b o, s.heap.get? b = some o → G.get? b = some o) (hS : G.get? S = some { cls := .type "list", dict := none, data := .seq acc c, slots := #[] }) (hl : as.length = us.length) (hG : EnG us S G as) (hacc : acc.toList = as.map Value.ref) :
    ∃ H' : Hp, Same H H' ∧ H S = none ∧ (∀ t ∈ as, H t = none) ∧ H' S = some (.lst (as.map V.ref)) ∧ (∀ j t, as[j]? = some t → ∃ y, ys[j]? = some y ∧ H' t = some (.tup [.int (j : Nat), y])) ∧ Inv X pins σ H' { s with heap := G, toks := tk } := by
  have lk : ys.length = us.length := Paired.length kv
  have low : ∀ a ∈ as, s.heap.objs.size ≤ a := fun a ha => Nat.le_trans lS (Nat.le_of_lt (hG.above a ha))
  have nS : S ∉ as := fun z => Nat.lt_irrefl _ (hG.above _ z)
  have nd : as.Nodup := hG.rise.imp fun h => Nat.ne_of_lt h
  have new : ∀ t ∈ as, H t = none := fun t ht => I.hok.fresh (low t ht)
  have newS : H S = none := I.hok.fresh lS
  let H1 : Hp := layE (upd H S (.lst (as.map V.ref))) 0 as ys
  have off : ∀ b, b ∉ as → b ≠ S → H1 b = H b := fun b n1 n2 => (layE_off as ys 0 _ n1).trans (upd_ne n2)
  have old : ∀ b o, s.heap.get? b = some o → b ∉ as ∧ b ≠ S := fun b o x => ⟨fun z => absurd (Heap.lt_size x) (Nat.not_lt.mpr (low b z)), Nat.ne_of_lt (Nat.lt_of_lt_of_le (Heap.lt_size x) lS)⟩
  have kp : Same H H1 := fun b u x => by
    rw [off b (fun z => by rw [new b z] at x; cases x) (fun z => by rw [z, newS] at x; cases x)]
    exact x
  have eS : H1 S = some (.lst (as.map V.ref)) := (layE_off as ys 0 _ nS).trans upd_same
  have at_ : ∀ j t, as[j]? = some t → ∃ y, ys[j]? = some y ∧ H1 t = some (.tup [.int (j : Nat), y]) := fun j t hj => by
    obtain ⟨y, h1, h2⟩ := layE_at as ys 0 (upd H S (.lst (as.map V.ref))) (by omega) nd j t hj
    rw [Nat.zero_add] at h2
    exact ⟨y, h1, h2⟩
  refine ⟨H1, kp, newS, new, eS, at_, ?_⟩
  refine I.call' (ch := []) rfl ⟨fun b o x _ _ _ => hk b o x, fun b o x _ _ _ => ⟨o.slots, hk b o x⟩, fun b o x n _ => by rw [off b (old b o x).1 (old b o x).2]; exact n, fun b o x _ => ⟨o, hk b o x⟩, fun b zs x => kp b _ x, fun b o u x => kp b _ x, fun b ps x => ⟨#[], by rw [kp b _ x]; simp⟩⟩ (fun b u x => ?_) I.bare (fun b z => by simp at z)
  by_cases hb : b ∈ as
  · obtain ⟨j, hj⟩ := List.mem_iff_getElem?.mp hb
    obtain ⟨y, h1, h2⟩ := at_ j b hj
    rw [h2] at x
    cases x
    obtain ⟨t, w, f1, f2⟩ := hG.pairs j b hj
    obtain ⟨w2, g1, g2⟩ := LiI.paired_get kv h1
    rw [f1] at g1
    cases g1
    exact ⟨by show 2 ≤ sizeLine; decide, [.int j t, w], .cons ⟨t, rfl⟩ (.cons g2 .nil), ⟨_, f2, rfl, _, rfl⟩⟩
  · by_cases hb2 : b = S
    · rw [hb2] at x ⊢
      rw [eS] at x
      cases x
      exact ⟨by rw [List.length_map]; omega, acc.toList, c, by rw [hacc]; exact LiI.vals_refs as, by rw [Array.toArray_toList]; exact hS⟩
    · rw [off b hb hb2] at x
      exact (I.hok b u x).stay (fun d v _ y => hk d v y) (fun d y => kp d _ y) fun d zs y => kp d _ y
/-- list(enumerate(e)), e a tuple -/
theorem pe_lstEn (hc : X.calm = true) (he : PE X e te) (hg : Gl X "list") (hm : X.mg "list" = none) (hg2 : Gl X "enumerate") (hm2 : X.mg "enumerate" = none)
    (n1 : starEach [e] X.env = (false, eval e X.env) :: starEach [] X.env := by rfl) (n2 : starEach [.Call (.Name "enumerate" q) [e] [] cpos] X.env = (false, eval (.Call (.Name "enumerate" q) [e] [] cpos) X.env) :: starEach [] X.env := by rfl) :
    PE X (.Call (.Name "list" p) [.Call (.Name "enumerate" q) [e] [] cpos] [] pos) (tLstEn X.K te) := by
  refine ⟨fun pins s σ H Q I hq => ?_⟩
  refine Call_ (ld_blt I hg hm boot_list (PyProof.Rows.callWith_type1 (args_cons ?_ n2) n2))
  refine Call_ (ld_blt I hg2 hm2 boot_enumerate (PyProof.Rows.callWith_type1 (args_cons (thn (he.run pins s σ H _ I hq) fun u s1 ⟨x, H1, I1, rx, a, ys, ex, hs, k⟩ => args_nil ?_) n1) n1))
  subst ex
  cases rx
  obtain ⟨us, rv, pt, hz⟩ := I1.tuple hs
  have pt' : s1.heap.IsTuple a us.toArray := pt
  have la : a < s1.heap.objs.size := let ⟨_, y, _⟩ := pt'; Heap.lt_size y
  refine enum1_call (begins_tuple a us.toArray) pt' fun G1 e1 t1 k1 => args_nil ?_
  have lG : s1.heap.objs.size + 1 < G1.objs.size := Heap.lt_size e1
  refine en_call (s := { s1 with heap := G1 }) (xs := us) (t := a) (I1.ok.hd hc) e1 ⟨_, t1, rfl, rfl⟩ (pt'.at fun o y => k1 _ o y) (Nat.succ_ne_self _) (Nat.ne_of_lt la) (Nat.ne_of_gt (Nat.lt_succ_of_lt la)) (by have := Paired.length rv; omega) fun G tk acc c as hk hS hl hG hacc => ?_
  have old : ∀ b o, s1.heap.get? b = some o → G.get? b = some o := fun b o y => hk b o (Nat.ne_of_lt (Nat.lt_succ_of_lt (Heap.lt_size y))) (Nat.ne_of_lt (Heap.lt_size y)) (k1 b o y)
  obtain ⟨H', q1, q2, q5, q3, q4, J⟩ := en_laid (tk := tk) (S := G1.objs.size) I1 hz rv (by omega) old hS hl hG hacc
  exact ⟨.ref G1.objs.size, H', J, rfl, k H' _ as q1 q2 q5 q3 (by have := Paired.length rv; omega) q4⟩
end
theorem pe_lstEnK {X : Cx} {e : Expr} {te : TE} {p q pos cpos : Pos} (K : PySem.W.Frag) (hK : X.K = K) (hc : X.calm = true) (he : PE X e te) (hg : Gl X "list") (hm : X.mg "list" = none) (hg2 : Gl X "enumerate") (hm2 : X.mg "enumerate" = none)
    (n1 : starEach [e] X.env = (false, eval e X.env) :: starEach [] X.env := by rfl) (n2 : starEach [.Call (.Name "enumerate" q) [e] [] cpos] X.env = (false, eval (.Call (.Name "enumerate" q) [e] [] cpos) X.env) :: starEach [] X.env := by rfl) :
    PE X (.Call (.Name "list" p) [.Call (.Name "enumerate" q) [e] [] cpos] [] pos) (tLstEn K te) := hK ▸ pe_lstEn hc he hg hm hg2 hm2 n1 n2
section
variable {K : PySem.W.Frag} {bx X0 : Addr → Prop} {H0 : Hp} {ρ : Rho}
def tup? : Dat → Option (List PyData)
  | .d (.tuple ys) => some ys
  | .pt ys => some ys
  | _ => none
theorem da_tup {X : Addr → Prop} {H : Hp} {v : V} {x : Dat} {ys : List PyData} (d : DaOk K bx X H v x) (e : tup? x = some ys) : ∃ a us, v = .ref a ∧ SqT K H a us ∧ DpAll K (core X H) us ys := by
  cases x with
  | d x =>
    cases x with
    | tuple zs =>
      cases e
      cases da_d d with
      | tup h1 h2 => exact ⟨_, _, rfl, grow_sqT (grow_same core_le) h1, h2⟩
    | _ => cases e
  | pt zs =>
    cases e
    obtain ⟨a, o, us, rfl, h1, _, h2⟩ := da_pt d
    exact ⟨a, us, rfl, grow_sqT (grow_same core_le) (sqt_frz h1), h2⟩
  | _ => cases e
theorem dpAll_ix {C : Hp} : ∀ {us : List V} {ys : List PyData}, us.length = ys.length → (∀ (j : Nat) u y, us[j]? = some u → ys[j]? = some y → Dp K C u y) → DpAll K C us ys
  | [], [], _, _ => .nil
  | [], _ :: _, h, _ => by cases h
  | _ :: _, [], h, _ => by cases h
  | u :: us, y :: ys, h, q => .cons (q 0 u y rfl rfl) (dpAll_ix (Nat.succ.inj h) fun j u y h1 h2 => q (j + 1) u y h1 h2)
theorem dpAll_at2 {C : Hp} : ∀ {us : List V} {ys : List PyData} {j : Nat} {u : V} {y : PyData}, DpAll K C us ys → us[j]? = some u → ys[j]? = some y → Dp K C u y
  | _, _, 0, _, _, .cons a _, h1, h2 => by
    cases h1
    cases h2
    exact a
  | _, _, j + 1, _, _, .cons _ b, h1, h2 => dpAll_at2 b h1 h2
/-- list(enumerate(x)) -/
theorem wf_lstEn {t : TE} {Φ : List PyData → Prop} (h : W K bx X0 H0 t ρ fun x => ∃ ys, tup? x = some ys ∧ Φ (ys.mapIdx fun i d => .tuple [.int (i : Nat), d])) : WF K bx X0 H0 (tLstEn K t) ρ Φ := fun X H σ e Q k =>
  h X H σ e _ fun v x H1 f d ⟨ys, e1, q⟩ => by
    obtain ⟨a, us, rfl, h1, h2⟩ := da_tup d e1
    refine ⟨a, us, rfl, h1, fun H' p ts sm np nt ep hl hp => ?_⟩
    have f2 : Fr bx H1 H' := .of sm
    have E1 := e.toEnX.go f
    have cc : Same (core X H1) (core (fun b => X b ∨ b = p) H') := fun b o z => by
      obtain ⟨z1, z2, z3⟩ := core_some z
      exact core_of (fun g => g.elim z1 fun g => by rw [g, np] at z2; cases z2) (sm b o z2) z3
    refine k p (ts.map V.ref) _ H' (f.trans f2) (f.free np) ep (dpAll_ix ?_ fun j u y g1 g2 => ?_) q
    · rw [List.length_map, List.length_mapIdx, hl, dpAll_len h2]
    · rw [List.getElem?_map] at g1
      obtain ⟨t, g3, rfl⟩ := Option.map_eq_some_iff.mp g1
      rw [List.getElem?_mapIdx] at g2
      obtain ⟨y2, g4, rfl⟩ := Option.map_eq_some_iff.mp g2
      obtain ⟨w, g5, g6⟩ := hp j t g3
      have nt2 := nt t (List.mem_of_getElem? g3)
      have tp : t ≠ p := fun z => by
        rw [z, ep] at g6
        cases g6
      exact Dp.tup (SqT.of (core_of (fun g => g.elim (E1.no nt2) tp) g6 fun ps z => (by cases z))) (.cons (.int _) (.cons (dp_mono cc _ _ (dpAll_at2 h2 g5 g4)) .nil))
end
end Say

set_option Elab.async false
set_option linter.all false
set_option maxRecDepth 100000
set_option maxHeartbeats 4000000
/-! errors of three fields; truth of sequences; the own == of instances -/
namespace Say
universe u
open PySem PySem.Spec PyProof.Rows L2
def spIni3 (f g h : Str) (C : Addr) : Sp := fun vs H Q _ => ∃ (a : Addr) (x y z : V), vs = [.ref a, x, y, z] ∧ H a = some (exo a C none) ∧
  ∀ (dx : Addr) (H' : Hp), H dx = none → dx ≠ a → IniEnd C a dx [(h, z), (g, y), (f, x)] H H' → Q .non H'
theorem ini_go3 {Ca : Addr} {f g h : Str} {H : Hp} {x y z : V} {Q : XK} (k : ∀ dd H', Same H H' → H' dd = some (.xd [(h, z), (g, y), (f, x)]) → Q (.ref Ca) (some dd) H') :
    ([x, y, z] : List V).length ≤ 1000 ∧ ∀ a, H a = none → spIni3 f g h Ca (.ref a :: ([x, y, z] ++ [])) (upd H a (exo a Ca none))
      (fun v H2 => v = .non ∧ ∃ (d : Addr) (fs : List (Str × V)), H2 a = some (exo a Ca (some d)) ∧ H2 d = some (exd d fs) ∧ H d = none ∧ Q (.ref Ca) (some d) (upd (del H2 a) d (.xd fs))) (fun _ _ _ => False) := by
  refine ⟨Nat.le_of_ble_eq_true rfl, fun a hn => ⟨a, x, y, z, rfl, upd_same, fun dx H' nd ne I => ?_⟩⟩
  obtain ⟨n1, s1, e1⟩ := raise_mid hn nd ne I
  exact ⟨rfl, dx, _, I.obj, I.dic, n1, k dx _ s1 e1⟩
section
variable {K : PySem.W.Frag} {bx X0 : Addr → Prop} {H0 : Hp} {ρ : Rho} {Φ : Dat → Prop} {N : Rho → Prop} {R : Dat → Prop} {B C : Rho → Prop}
/-- raise C(x, y, z) of an error with three fields -/
theorem ws_raise3 {Ca : Addr} {f g h : Str} {ta : TA} {E : XK} (q : WA K bx X0 H0 ta ρ fun xs => ∃ x y z, xs = [.d x, .d y, .d z] ∧ GivesE K bx X0 H0 E ⟨Ca, [(h, z), (g, y), (f, x)]⟩) :
    WS K bx X0 H0 (fun _ σ H => tMkE Ca (spIni3 f g h Ca) [] ta σ H fun cls d H' => E cls d H') ρ N R B C :=
  ⟨fun Z X H σ s D _ _ _ _ => q X H σ s.toEn _ fun vs xs H1 fr d ⟨x, y, z, e, q⟩ => by
    subst e
    cases d with
    | cons d1 r1 => cases r1 with
      | cons d2 r2 => cases r2 with
        | cons d3 r3 =>
          cases r3
          refine ini_go3 fun dd H' s1 e1 => ?_
          have go : ∀ {v : V} {x : PyData}, DaOk K bx X H1 v (.d x) → Dp K (core X0 H') v x := fun d => dp_mono (core_fr (bx := fun _ => False) (.of s1) fun b z => z.elim) _ _ (dp_mono (core_sub s.s0) _ _ (da_d d))
          exact q H' dd [_, _, _] (s.fr.trans (fr.trans (.of s1))) (.cons (go d3) (.cons (go d2) (.cons (go d1) .nil))) e1⟩
/-- a sequence's truth -/
def tTruQ (K : PySem.W.Frag) (t : TE) : TT := fun σ H Q => t σ H fun x H' => ∃ k, TruV K x H' k ∧ Q k H'
theorem da_tru {X : Addr → Prop} {H : Hp} {v : V} {x : Dat} {ys : List PyData} (d : DaOk K bx X H v x) (e : seq? x = some ys) : TruV K v H (!ys.isEmpty) := by
  obtain ⟨a, us, rfl, h1, h2⟩ := da_seq d e
  have em : us.isEmpty = ys.isEmpty := by
    cases h2 <;> rfl
  rw [← em]
  rcases h1 with h1 | h1
  · exact .inl ⟨us, h1, rfl⟩
  · exact .inr (.inl ⟨us, h1, rfl⟩)
theorem wt_seq {t : TE} {Φ : Bool → Prop} (h : W K bx X0 H0 t ρ fun x => ∃ ys, seq? x = some ys ∧ Φ (!ys.isEmpty)) : WT K bx X0 H0 (tTruQ K t) ρ Φ := fun X H σ e Q k =>
  h X H σ e _ fun v x H1 f d ⟨ys, e1, q⟩ => ⟨_, da_tru d e1, k _ H1 f q⟩
theorem w_notQ {t : TE} (h : W K bx X0 H0 t ρ fun x => ∃ ys, seq? x = some ys ∧ Φ (.d (.bool ys.isEmpty))) : W K bx X0 H0 (tNotT K t) ρ Φ := fun X H σ e Q k =>
  h X H σ e _ fun v x H1 f d ⟨ys, e1, q⟩ => ⟨_, da_tru d e1, k _ _ H1 f (by rw [Bool.not_not]; exact ok_d (.bl _)) q⟩
end
theorem pt_truQ {X : Cx} {a : Expr} {ta : TE} (K : PySem.W.Frag) (hK : X.K = K) (ha : PE X a ta) (he : ∀ whole, isTrue a X.env whole = (do let v ← whole; standAt a.pos; holding [v] (truthy v)) := by intro _; rfl) : PT X a (tTruQ K ta) := hK ▸ pt_truth ha he
theorem pe_notQ {X : Cx} {a : Expr} {ta : TE} {pos : Pos} (K : PySem.W.Frag) (hK : X.K = K) (ha : PE X a ta) : PE X (.UnaryOp .Not a pos) (tNotT K ta) := hK ▸ pe_notT ha
/-! ### the own == -/
/-- two instances with fields of the same data -/
def REq (K : PySem.W.Frag) (C a b : Addr) (H : Hp) : Prop := ∃ dx dy us vs fs, H a = some (.ins C dx us) ∧ H b = some (.ins C dy vs) ∧ FdAll K H us fs ∧ FdAll K H vs fs
section
variable {K : PySem.W.Frag} {bx X0 : Addr → Prop} {H0 : Hp} {ρ : Rho} {Φ : Dat → Prop}
theorem core_all {X : Addr → Prop} {H : Hp} {vs : List (Str × V)} {fs : List (Str × Fd)} (h : FdAll K (core X H) vs fs) : FdAll K H vs fs := fdAll_mono core_le h
/-- x == y of instances that are the same by their fields -/
theorem w_eqOwn {Ca : Addr} {a b : TE} {P : Addr → Addr → Hp → Prop} (hP : ∀ p q H, REq K Ca p q H → P p q H) (h : W K bx X0 H0 a ρ fun x => W K bx X0 H0 b ρ fun y => ∃ fs, ins? x = some (Ca, fs) ∧ ins? y = some (Ca, fs) ∧ Φ (.d (.bool true))) : W K bx X0 H0 (tOp (rEqG (DIns Ca P)) a b) ρ Φ :=
  w_op (h.mono fun x q0 => W.mono q0 fun y ⟨fs, e1, e2, q⟩ X H E v u d1 d2 Q k => by
    obtain ⟨p, dx, us, rfl, h1, h2⟩ := da_ins d1 e1
    obtain ⟨r, dy, vs, rfl, h3, h4⟩ := da_ins d2 e2
    exact ⟨⟨p, r, dx, dy, us, vs, rfl, rfl, h1, h3, hP p r H ⟨dx, dy, us, vs, fs, h1, h3, core_all h2, core_all h4⟩⟩, fun H' ex => k _ _ H' (.of ex) (ok_d (.bl _)) q⟩)
end
/-- the pieces of an own __eq__, read by hand -/
theorem fd_both {K : PySem.W.Frag} {H : Hp} {f : Str} {us vs : List (Str × V)} {fs : List (Str × Fd)} {d : PyData} (h1 : FdAll K H us fs) (h2 : FdAll K H vs fs) (e : (fs.lookup f).bind (fun y => dat? y.dat) = some d) : ∃ x y, us.lookup f = some x ∧ vs.lookup f = some y ∧ Dp K H x d ∧ Dp K H y d := by
  cases c : fs.lookup f with
  | none =>
    rw [c] at e
    cases e
  | some y =>
    rw [c] at e
    obtain ⟨x1, g1, g2⟩ := fdAll_get h1 c
    obtain ⟨x2, g3, g4⟩ := fdAll_get h2 c
    refine ⟨x1, x2, g1, g3, ?_, ?_⟩
    · cases y with
      | d z =>
        cases e
        exact g2
      | pt zs =>
        cases e
        obtain ⟨a, o, ws, rfl, k1, _, k3⟩ := g2
        exact .tup (sqt_frz k1) k3
    · cases y with
      | d z =>
        cases e
        exact g4
      | pt zs =>
        cases e
        obtain ⟨a, o, ws, rfl, k1, _, k3⟩ := g4
        exact .tup (sqt_frz k1) k3
end Say

set_option Elab.async false
set_option linter.all false
set_option maxRecDepth 100000
set_option maxHeartbeats 4000000
/-! books handed to a def; pairs that face each other -/
namespace Say
open PySem PySem.Spec PyProof.Rows L2
/-- a list of any things -/
def anyL : Dat := .s fun H v => ∃ a us, v = .ref a ∧ H a = some (.lst us)
/-- what is handed in as a book -/
inductive BA where
  | bk (ms : List (Str × Nat)) (rs : List Rl)
  | dat (d : PyData)
  | odd
def BA.toDat (C : Addr) : BA → Dat
  | .bk ms rs => .fi C (bookF ms rs)
  | .dat d => .d d
  | .odd => anyL
theorem BA.notO (C : Addr) (b : BA) : isO (b.toDat C) = false := by cases b <;> rfl
section
variable {K : PySem.W.Frag} {bx X0 : Addr → Prop} {H0 : Hp} {ρ : Rho} {Φ : Dat → Prop}
theorem w_isiB {t : TE} {Ca : Addr} (yes : ∀ (H : Hp) (a dx : Addr) (fs : List (Str × V)), H a = some (.ins Ca dx fs) → TyX K H (.ref a) (.ref Ca)) (no : ∀ T ∈ ["NoneType", "bool", "int", "str", "list", "tuple"], PySem.W.kitOne K (.type T) (.ref Ca) = some false)
    (h : W K bx X0 H0 t ρ fun x => ∃ b : BA, x = b.toDat Ca ∧ Φ (.d (.bool (match b with | .bk _ _ => true | _ => false)))) : W K bx X0 H0 (tCB (rIsi K) (tCons t (tCons (tC (.ref Ca)) tNil))) ρ Φ := fun X H σ e Q k =>
  h X H σ e _ fun v x H1 f d q => by
    obtain ⟨b, rfl, q⟩ := q
    cases b with
    | bk ms rs =>
      obtain ⟨a, dx, vs, rfl, h1, h2⟩ := da_ins d rfl
      exact ⟨.ref a, .ref Ca, .ref Ca, .ref Ca, true, rfl, .own Ca, yes _ a dx vs h1, by unfold PySem.W.kitOne; simp, k _ _ H1 f (ok_d (.bl true)) q⟩
    | dat y =>
      have dp := dp_mono core_le _ _ (da_d d)
      refine ⟨v, .ref Ca, _, .ref Ca, false, rfl, .own Ca, kind_of dp, no _ ?_, k _ _ H1 f (ok_d (.bl false)) q⟩
      cases dp <;> simp [kind]
    | odd =>
      obtain ⟨a, us, rfl, h1⟩ := (show DaOk K bx X H1 v (.s _) from d) H1 core_le
      exact ⟨.ref a, .ref Ca, .type "list", .ref Ca, false, rfl, .own Ca, .base (.lst h1), no _ (by simp), k _ _ H1 f (ok_d (.bl false)) q⟩
end
/-! ### numbered rules, pairs -/
def numR (rs : List Rl) : List (Nat × Rl) := rs.mapIdx fun i r => (i, r)
def numD (p : Nat × Rl) : PyData := .tuple [.int (p.1 : Nat), rlD p.2]
def nmD (p : Nat × Str) : PyData := .tuple [.int (p.1 : Nat), .str p.2]
def sideR (s : Str) (rs : List Rl) : List (Nat × Str) := ((numR rs).filter fun p => decide (p.2.2.1 = s)).map fun p => (p.1, p.2.1)
def twoD (p : Nat × Nat) : PyData := .tuple [.int (p.1 : Nat), .int (p.2 : Nat)]
/-- the pairs that face each other: right, left -/
def faceR (rs : List Rl) : List (Nat × Nat) := (sideR "right" rs).flatMap fun a => ((sideR "left" rs).filter fun b => decide (a.2 = b.2)).map fun b => (a.1, b.1)
theorem numR_map (rs : List Rl) : ((rs.map rlD).mapIdx fun i d => PyData.tuple [.int (i : Nat), d]) = (numR rs).map numD := by
  unfold numR
  apply List.ext_getElem?
  intro i
  rw [List.getElem?_mapIdx, List.getElem?_map, List.getElem?_map, List.getElem?_mapIdx]
  cases rs[i]? <;> rfl
theorem numR_len (rs : List Rl) : (numR rs).length = rs.length := by unfold numR; rw [List.length_mapIdx]
theorem numR_mem {rs : List Rl} {p : Nat × Rl} (h : p ∈ numR rs) : rs[p.1]? = some p.2 := by
  obtain ⟨i, hi⟩ := List.mem_iff_getElem?.mp h
  unfold numR at hi
  rw [List.getElem?_mapIdx] at hi
  obtain ⟨r, h1, rfl⟩ := Option.map_eq_some_iff.mp hi
  exact h1
theorem sideR_len (s : Str) (rs : List Rl) : (sideR s rs).length ≤ rs.length := by
  unfold sideR
  rw [List.length_map]
  exact Nat.le_trans (List.length_filter_le _ _) (Nat.le_of_eq (numR_len rs))
theorem sideR_mem {s : Str} {rs : List Rl} {p : Nat × Str} (h : p ∈ sideR s rs) : ∃ r : Rl, rs[p.1]? = some r ∧ r.1 = p.2 ∧ r.2.1 = s := by
  unfold sideR at h
  obtain ⟨q, h1, rfl⟩ := List.mem_map.mp h
  obtain ⟨h2, h3⟩ := List.mem_filter.mp h1
  exact ⟨q.2, numR_mem h2, rfl, of_decide_eq_true h3⟩
theorem faceR_mem {rs : List Rl} {p : Nat × Nat} (h : p ∈ faceR rs) : ∃ r l : Rl, rs[p.1]? = some r ∧ rs[p.2]? = some l ∧ r.1 = l.1 ∧ r.2.1 = "right" ∧ l.2.1 = "left" := by
  unfold faceR at h
  obtain ⟨a, ha, h1⟩ := List.mem_flatMap.mp h
  obtain ⟨b, hb, rfl⟩ := List.mem_map.mp h1
  obtain ⟨hb1, hb2⟩ := List.mem_filter.mp hb
  obtain ⟨r, q1, q2, q3⟩ := sideR_mem ha
  obtain ⟨l, q4, q5, q6⟩ := sideR_mem hb1
  exact ⟨r, l, q1, q4, by rw [q2, q5]; exact of_decide_eq_true hb2, q3, q6⟩
theorem faceR_data (rs : List Rl) : (faceR rs).map twoD = (sideR "right" rs).flatMap fun a => ((sideR "left" rs).filter fun b => decide (a.2 = b.2)).map fun b => twoD (a.1, b.1) := by
  unfold faceR
  rw [List.map_flatMap]
  congr 1
  funext a
  rw [List.map_map]
  rfl
theorem flat_len {α β : Type} {f : α → List β} {n : Nat} : ∀ {l : List α}, (∀ a ∈ l, (f a).length ≤ n) → (l.flatMap f).length ≤ l.length * n
  | [], _ => Nat.zero_le _
  | a :: l, h => by
    rw [List.flatMap_cons, List.length_append, List.length_cons, Nat.succ_mul]
    have h1 := h a (List.mem_cons_self ..)
    have h2 := flat_len (l := l) fun b hb => h b (List.mem_cons_of_mem _ hb)
    omega
theorem faceR_len {rs : List Rl} (h : rs.length ≤ 60) : (faceR rs).length ≤ 3600 := by
  have h1 : (faceR rs).length ≤ (sideR "right" rs).length * 60 := flat_len fun a _ => by
    rw [List.length_map]
    exact Nat.le_trans (List.length_filter_le _ _) (Nat.le_trans (sideR_len _ _) h)
  have h2 := sideR_len "right" rs
  have h3 : (sideR "right" rs).length * 60 ≤ 60 * 60 := Nat.mul_le_mul_right _ (Nat.le_trans h2 h)
  omega
/-- a book that stands: what its fields are like -/
structure BkOk (ms : List (Str × Nat)) (rs : List Rl) : Prop where
  nd : (ms.map (·.1)).Nodup
  few : rs.length ≤ 60
  rl : ∀ r ∈ rs, ∃ n, (r.1, n) ∈ ms ∧ n ≤ 3 ∧ (∀ p ∈ r.2.2, (∀ x ∈ p.1 ++ p.2, 1 ≤ x ∧ x ≤ n) ∧ p.1.length ≤ 100 ∧ p.2.length ≤ 100) ∧ r.2.2.length ≤ 100
/-- a pair's premises -/
def pairP (rs : List Rl) (p : Nat × Nat) : List Pm := ((rs[p.1]?.map (·.2.2)).getD []) ++ ((rs[p.2]?.map (·.2.2)).getD [])
def plOf (ms : List (Str × Nat)) (x : Str) : Nat := ((ms.find? fun m => decide (m.1 = x)).map (·.2)).getD 0
/-- the rows that wake both -/
def wakeP (ms : List (Str × Nat)) (rs : List Rl) (p : Nat × Nat) : List (List Int) := (rowsL (plOf ms ((rs[p.1]?.map (·.1)).getD ""))).filter fun r => (pairP rs p).all (holdB r)
abbrev Bad := Nat × Nat × List (List Int)
def badD (b : Bad) : PyData := .tuple [.int (b.1 : Nat), .int (b.2.1 : Nat), .tuple (b.2.2.map rowD)]
def badR (ms : List (Str × Nat)) (rs : List Rl) : List Bad := ((faceR rs).map fun p => (p.1, p.2, wakeP ms rs p)).filter fun b => !b.2.2.isEmpty
theorem plOf_mem {ms : List (Str × Nat)} (nd : (ms.map (·.1)).Nodup) {x : Str} {n : Nat} (h : (x, n) ∈ ms) : plOf ms x = n := by
  unfold plOf
  induction ms with
  | nil => cases h
  | cons m ms ih =>
    obtain ⟨n1, n2⟩ := List.nodup_cons.mp nd
    rw [List.find?_cons]
    by_cases c : m.1 = x
    · rw [decide_eq_true c]
      rcases List.mem_cons.mp h with e | e
      · rw [← e]
        rfl
      · exact absurd (List.mem_map.mpr ⟨_, e, c.symm⟩) n1
    · rw [decide_eq_false c]
      rcases List.mem_cons.mp h with e | e
      · rw [← e] at c
        exact absurd rfl c
      · exact ih n2 e
end Say

set_option Elab.async false
set_option linter.all false
set_option pp.maxSteps 1500
set_option pp.deepTerms false
set_option maxRecDepth 100000
set_option maxHeartbeats 8000000
namespace K03
open PySem PySem.Spec PyProof.Rows L2 Say
section
variable {P : Program} {w : World} {K : PySem.W.Frag} {mg : Str → Option Value} {base : Heap}
theorem sci_NoMaker : FnScope ["self", "name"] ["self", "name"] (defScope (inClass (top 9) 0)) := ⟨rfl, rfl, rfl, by decide +kernel, rfl, by decide +kernel, by decide +kernel⟩
theorem ini_NoMaker (T : Tx K mg) : ∃ fd, FnOk P w K mg base CX0 1 (He.ma K (He.ga K "NoMaker") "__init__") fd ["self", "name"] (spIni "name" (He.ga K "NoMaker")) ∧ Binds K fd ["self", "name"] [] := by
  obtain ⟨fd, F⟩ := T.F_NoMaker___init__
  refine ⟨fd, ?_, F.bindsN fun _ _ _ _ _ _ us hl => match us, hl with | [_, _], _ => rfl⟩
  refine F.ok sci_NoMaker (fun vs H Q E h => ?_) (fun cdv A ou s H vs Q E hr h => ?_)
  · obtain ⟨a, y, rfl, _⟩ := h
    rfl
  · obtain ⟨a, y, rfl, ha, k⟩ := h
    exact ⟨_, PSs.nox (pss_one (ps_est (pv 0) (pv 1))), _, rfl, _, rfl, a, He.ga K "NoMaker", rfl, T.E_NoMaker, T.n_NoMaker_name, .inl ⟨ha, fun dx n ne => k dx _ n ne (ini_end ne)⟩⟩
theorem sci_InvalidBook : FnScope ["self", "at"] ["self", "at"] (defScope (inClass (top 5) 0)) := ⟨rfl, rfl, rfl, by decide +kernel, rfl, by decide +kernel, by decide +kernel⟩
theorem ini_InvalidBook (T : Tx K mg) : ∃ fd, FnOk P w K mg base CX0 1 (He.ma K (He.ga K "InvalidBook") "__init__") fd ["self", "at"] (spIni "at" (He.ga K "InvalidBook")) ∧ Binds K fd ["self", "at"] [] := by
  obtain ⟨fd, F⟩ := T.F_InvalidBook___init__
  refine ⟨fd, ?_, F.bindsN fun _ _ _ _ _ _ us hl => match us, hl with | [_, _], _ => rfl⟩
  refine F.ok sci_InvalidBook (fun vs H Q E h => ?_) (fun cdv A ou s H vs Q E hr h => ?_)
  · obtain ⟨a, y, rfl, _⟩ := h
    rfl
  · obtain ⟨a, y, rfl, ha, k⟩ := h
    exact ⟨_, PSs.nox (pss_one (ps_est (pv 0) (pv 1))), _, rfl, _, rfl, a, He.ga K "InvalidBook", rfl, T.E_InvalidBook, T.n_InvalidBook_at, .inl ⟨ha, fun dx n ne => k dx _ n ne (ini_end ne)⟩⟩
theorem sci_InvalidRow : FnScope ["self", "at"] ["self", "at"] (defScope (inClass (top 6) 0)) := ⟨rfl, rfl, rfl, by decide +kernel, rfl, by decide +kernel, by decide +kernel⟩
theorem ini_InvalidRow (T : Tx K mg) : ∃ fd, FnOk P w K mg base CX0 1 (He.ma K (He.ga K "InvalidRow") "__init__") fd ["self", "at"] (spIni "at" (He.ga K "InvalidRow")) ∧ Binds K fd ["self", "at"] [] := by
  obtain ⟨fd, F⟩ := T.F_InvalidRow___init__
  refine ⟨fd, ?_, F.bindsN fun _ _ _ _ _ _ us hl => match us, hl with | [_, _], _ => rfl⟩
  refine F.ok sci_InvalidRow (fun vs H Q E h => ?_) (fun cdv A ou s H vs Q E hr h => ?_)
  · obtain ⟨a, y, rfl, _⟩ := h
    rfl
  · obtain ⟨a, y, rfl, ha, k⟩ := h
    exact ⟨_, PSs.nox (pss_one (ps_est (pv 0) (pv 1))), _, rfl, _, rfl, a, He.ga K "InvalidRow", rfl, T.E_InvalidRow, T.n_InvalidRow_at, .inl ⟨ha, fun dx n ne => k dx _ n ne (ini_end ne)⟩⟩
theorem sci_NoRule : FnScope ["self", "number"] ["self", "number"] (defScope (inClass (top 10) 0)) := ⟨rfl, rfl, rfl, by decide +kernel, rfl, by decide +kernel, by decide +kernel⟩
theorem ini_NoRule (T : Tx K mg) : ∃ fd, FnOk P w K mg base CX0 1 (He.ma K (He.ga K "NoRule") "__init__") fd ["self", "number"] (spIni "number" (He.ga K "NoRule")) ∧ Binds K fd ["self", "number"] [] := by
  obtain ⟨fd, F⟩ := T.F_NoRule___init__
  refine ⟨fd, ?_, F.bindsN fun _ _ _ _ _ _ us hl => match us, hl with | [_, _], _ => rfl⟩
  refine F.ok sci_NoRule (fun vs H Q E h => ?_) (fun cdv A ou s H vs Q E hr h => ?_)
  · obtain ⟨a, y, rfl, _⟩ := h
    rfl
  · obtain ⟨a, y, rfl, ha, k⟩ := h
    exact ⟨_, PSs.nox (pss_one (ps_est (pv 0) (pv 1))), _, rfl, _, rfl, a, He.ga K "NoRule", rfl, T.E_NoRule, T.n_NoRule_number, .inl ⟨ha, fun dx n ne => k dx _ n ne (ini_end ne)⟩⟩
def f_maker_places (K : PySem.W.Frag) : FnA (List (Str × Nat) × List Rl × Str × Nat) := fnF (fun a => [.fi (He.ga K "Book") (bookF a.1 a.2.1), .d (.str a.2.2.1)]) (fun a => (a.1.map (·.1)).Nodup ∧ (a.2.2.1, a.2.2.2) ∈ a.1) (fun a => .d (.int (a.2.2.2 : Nat)))
def N_Book_maker_places : List Str := ["self", "name", "own", "places"]
theorem sc_Book_maker_places : FnScope N_Book_maker_places ["self", "name"] (defScope (inClass (top 43) 2)) := ⟨rfl, rfl, rfl, by decide +kernel, rfl, by decide +kernel, by decide +kernel⟩
theorem fkm_Book_maker_places (T : Tx K mg) {fd : FuncData} (F : FunD K "maker_places" "Book.maker_places" (defArgs (inClass (top 43) 2)) (defBody (inClass (top 43) 2)) (defScope (inClass (top 43) 2)) [] [] (He.ma K (He.ga K "Book") "maker_places") fd) : FnOk P w K mg base (L2.CX P w) 3 (He.ma K (He.ga K "Book") "maker_places") fd ["self", "name"] (spA K (f_maker_places K)) := by
  obtain ⟨fdI_NoMaker, GI_NoMaker, bI_NoMaker⟩ := ini_NoMaker (P := P) (w := w) (base := base) T
  refine fnA_ok F sc_Book_maker_places (fun _ => rfl) (fun cdv A ou s H E hr => ⟨_, (pss_cons (ps_for (passes_of rfl) rfl (pi_sq (pe_fld (pv 0) rfl)) (pg_tup (by rfl) (pgs_cons (pg_name (i := 2) sc_Book_maker_places.nd rfl (Or.inl rfl)) (pgs_cons (pg_name (i := 3) sc_Book_maker_places.nd rfl (Or.inl rfl)) pgs_nil)))
      (pss_one (ps_if (pt_cmpR op_eq (pv 2) (pv 1) (nomark _))
      (pss_one (ps_ret (pv 3)))
      pss_nil)))
      (pss_one (ps_raise rfl (takes_of rfl rfl rfl rfl) (pmk_e T.E_NoMaker T.I_NoMaker GI_NoMaker (hr.mono (by decide)) bI_NoMaker .nil pass0 T.c_NoMaker (pa_cons (pv 1) pa_nil))))), ?_⟩)
  rintro a bx X sb pre hE
  show WS K bx X H _ [some _, some _, none, none] _ _ _ _
  obtain ⟨ms, rs, x, n⟩ := a
  obtain ⟨nd, hm⟩ := pre
  replace nd : (ms.map (·.1)).Nodup := nd
  replace hm : (x, n) ∈ ms := hm
  refine ws_forS [2, 3] [2, 3] (wi_sq (w_fld T.k_Book T.a_Book_makers (w_var rfl ⟨_, _, rfl, rfl, _, ms.map mkD, rfl, rfl, fun i ρ' => ρ' = [some (.fi (He.ga K "Book") (bookF ms rs)), some (.d (.str x)), none, none] ∧ (x, n) ∈ ms.drop i, ⟨rfl, hm⟩, ?_, ?_⟩)))
  · rintro i z ρ' hz ⟨rfl, hd⟩
    rw [List.getElem?_map] at hz
    obtain ⟨m, hm2, rfl⟩ := Option.map_eq_some_iff.mp hz
    refine wg_tup rfl rfl (wgs_cons (wg_name (by decide) (wgs_cons (wg_name (by decide) (wgs_nil ?_)))))
    refine ws_if (wt_test (w_eqS (w_var rfl (w_var rfl ⟨m.1, x, rfl, rfl, _, rfl, fun c => ?_, fun c => ?_⟩))))
    · have e : m.1 = x := of_decide_eq_true c
      refine ws_ret sb (w_var rfl ⟨rfl, ?_⟩)
      have em : m = (x, n) := by
        have il := (List.getElem?_eq_some_iff.mp hm2).1
        obtain ⟨j, hj⟩ := List.mem_iff_getElem?.mp hm
        have e1 : (ms.map (·.1))[j]? = (ms.map (·.1))[i]? := by rw [List.getElem?_map, hj, List.getElem?_map, hm2]; exact congrArg some e.symm
        have e2 := (List.getElem?_inj (by rw [List.length_map]; exact (List.getElem?_eq_some_iff.mp hj).1) nd).mp e1
        rw [e2, hm2] at hj
        exact Option.some.inj hj
      rw [em]
      rfl
    · refine ws_next ⟨rfl, ?_⟩
      have il := (List.getElem?_eq_some_iff.mp hm2).1
      rw [List.drop_eq_getElem_cons il] at hd
      rcases List.mem_cons.mp hd with e | e
      · rw [List.getElem?_eq_getElem il] at hm2
        rw [← Option.some.inj hm2, ← e] at c
        exact absurd rfl (of_decide_eq_false c)
      · exact e
  · rintro ρ' ⟨rfl, hd⟩
    rw [List.length_map, List.drop_length] at hd
    cases hd
theorem gm_Book_maker_places (T : Tx K mg) : GmS P w K mg base (L2.CX P w) 3 (He.ga K "Book") "maker_places" ["self", "name"] (spA K (f_maker_places K)) := by
  obtain ⟨fd, F⟩ := T.F_Book_maker_places
  exact ⟨fd, fkm_Book_maker_places T F, F.bindsN fun _ _ _ _ _ _ us hl => match us, hl with | [_, _], _ => rfl⟩
def f_need_book (K : PySem.W.Frag) : FnA BA := ⟨fun b => [b.toDat (He.ga K "Book")], fun _ _ => True, fun b x => (∃ ms rs, b = .bk ms rs) ∧ x = b.toDat (He.ga K "Book"), fun b e => (∀ ms rs, b ≠ .bk ms rs) ∧ e = ⟨He.ga K "InvalidBook", [("at", .int (-1))]⟩⟩
def N_need_book : List Str := ["book"]
theorem sc_need_book : FnScope N_need_book ["book"] (defScope (top 44)) := ⟨rfl, rfl, rfl, by decide +kernel, rfl, by decide +kernel, by decide +kernel⟩
theorem fk_need_book (T : Tx K mg) {fd : FuncData} (F : FnP K "need_book" 44 [] (He.ga K "need_book") fd) : FnOk P w K mg base (L2.CX P w) 3 (He.ga K "need_book") fd ["book"] (spA K (f_need_book K)) := by
  obtain ⟨fdI_InvalidBook, GI_InvalidBook, bI_InvalidBook⟩ := ini_InvalidBook (P := P) (w := w) (base := base) T
  refine fnA_ok F sc_need_book (fun _ => rfl) (fun cdv A ou s H E hr => ⟨_, (pss_cons (ps_if (pt_not (pt_val (pe_callB (show CallR _ _ (rIsi K) from call_isi) (by rfl) T.b_isinstance (by decide +kernel) (pa_cons (pv 0) (pa_cons (pe_glob (by rfl) T.g_Book (show RelV (.ref (He.ga K "Book")) _ from rfl)) pa_nil)))))
      (pss_one (ps_raise rfl (takes_of rfl rfl rfl rfl) (pmk_e T.E_InvalidBook T.I_InvalidBook GI_InvalidBook (hr.mono (by decide)) bI_InvalidBook .nil pass0 T.c_InvalidBook (pa_cons (pe_un un_neg pe_int) pa_nil))))
      pss_nil)
      (pss_one (ps_ret (pv 0)))), ?_⟩)
  rintro a bx X sb pre hE
  show WS K bx X H _ [some _] _ _ _ _
  refine ws_seq (ws_if (wt_not (wt_b (w_isiB T.y_Book T.kd_Book (w_var rfl ⟨a, rfl, _, rfl, fun c => ?_, fun c => ws_next (ws_ret sb (w_var rfl ⟨a.notO _, ?_, rfl⟩))⟩)))))
  · refine ws_raise (w_neg (w_int ⟨1, rfl, _, rfl, hE _ ⟨fun ms rs e => ?_, rfl⟩⟩))
    rw [e] at c
    cases c
  · cases a with
    | bk ms rs => exact ⟨ms, rs, rfl⟩
    | dat d => cases c
    | odd => cases c
theorem gk_need_book (T : Tx K mg) : Gd P w K mg base (L2.CX P w) 3 "need_book" ["book"] [] (f_need_book K) := by
  obtain ⟨fd, F⟩ := T.F_need_book
  exact ⟨fd, [], fk_need_book T F, ⟨.nil, F.bindsN fun _ _ _ _ _ _ us hl => match us, hl with | [_], _ => rfl⟩, F.kp⟩
end
end K03

set_option Elab.async false
set_option linter.all false
set_option maxRecDepth 100000
set_option maxHeartbeats 4000000
/-! books that are the same -/
namespace Say
open PySem PySem.Spec PyProof.Rows L2
/-- names and sides that may be laid -/
structure BkSh (ms : List (Str × Nat)) (rs : List Rl) : Prop where
  m : ∀ m ∈ ms, PyData.canLay0 (.str m.1) = true
  r : ∀ r ∈ rs, PyData.canLay0 (.str r.1) = true ∧ PyData.canLay0 (.str r.2.1) = true
theorem mks_lay : ∀ {ms : List (Str × Nat)}, (∀ m ∈ ms, PyData.canLay0 (.str m.1) = true) → PyData.canLayAll0 (ms.map mkD) = true
  | [], _ => rfl
  | m :: ms, h => by
    show ((PyData.canLay0 (.str m.1) && (true && true)) && PyData.canLayAll0 (ms.map mkD)) = true
    rw [h m (List.mem_cons_self ..), mks_lay fun n hn => h n (List.mem_cons_of_mem _ hn)]
    rfl
theorem rls_lay : ∀ {rs : List Rl}, (∀ r ∈ rs, PyData.canLay0 (.str r.1) = true ∧ PyData.canLay0 (.str r.2.1) = true) → PyData.canLayAll0 (rs.map rlD) = true
  | [], _ => rfl
  | r :: rs, h => by
    show ((PyData.canLay0 (.str r.1) && (PyData.canLay0 (.str r.2.1) && (PyData.canLayAll0 (r.2.2.map pmD) && true))) && PyData.canLayAll0 (rs.map rlD)) = true
    rw [(h r (List.mem_cons_self ..)).1, (h r (List.mem_cons_self ..)).2, pms_lay, rls_lay fun n hn => h n (List.mem_cons_of_mem _ hn)]
    rfl
theorem mks_dep : ∀ ms : List (Str × Nat), PyData.depthAll (ms.map mkD) ≤ 1
  | [] => Nat.zero_le _
  | m :: ms => by
    show max (max 0 (max 0 0) + 1) (PyData.depthAll (ms.map mkD)) ≤ 1
    have := mks_dep ms
    omega
theorem rls_dep : ∀ rs : List Rl, PyData.depthAll (rs.map rlD) ≤ 4
  | [] => Nat.zero_le _
  | r :: rs => by
    show max (max 0 (max 0 (max (PyData.depthAll (r.2.2.map pmD) + 1) 0)) + 1) (PyData.depthAll (rs.map rlD)) ≤ 4
    have h1 := rls_dep rs
    have h2 := pms_dep r.2.2
    omega
theorem mks_shaped {ms : List (Str × Nat)} (h : ∀ m ∈ ms, PyData.canLay0 (.str m.1) = true) : SeqAt.shaped (.tuple (ms.map mkD)) = true := by
  unfold SeqAt.shaped
  have h1 : PyData.canLay0 (.tuple (ms.map mkD)) = true := mks_lay h
  have h2 : PyData.depth (.tuple (ms.map mkD)) ≤ 64 := by
    show PyData.depthAll (ms.map mkD) + 1 ≤ 64
    have := mks_dep ms
    omega
  rw [h1, decide_eq_true h2]
  rfl
theorem rls_shaped {rs : List Rl} (h : ∀ r ∈ rs, PyData.canLay0 (.str r.1) = true ∧ PyData.canLay0 (.str r.2.1) = true) : SeqAt.shaped (.tuple (rs.map rlD)) = true := by
  unfold SeqAt.shaped
  have h1 : PyData.canLay0 (.tuple (rs.map rlD)) = true := rls_lay h
  have h2 : PyData.depth (.tuple (rs.map rlD)) ≤ 64 := by
    show PyData.depthAll (rs.map rlD) + 1 ≤ 64
    have := rls_dep rs
    omega
  rw [h1, decide_eq_true h2]
  rfl
theorem eqv_self {d : PyData} (h : SeqAt.shaped d = true) : PyData.eqv d d = true := PySem.SeqAt.eqv_refl d (SeqAt.canLay_of_shaped h)
/-- two books with the same makers and rules -/
def RBook (K : PySem.W.Frag) (C a b : Addr) (H : Hp) : Prop := ∃ dx dy us vs ms rs, H a = some (.ins C dx us) ∧ H b = some (.ins C dy vs) ∧ FdAll K H us (bookF ms rs) ∧ FdAll K H vs (bookF ms rs) ∧ BkSh ms rs
section
variable {K : PySem.W.Frag} {bx X0 : Addr → Prop} {H0 : Hp} {ρ : Rho} {Φ : Dat → Prop}
theorem w_eqBook {Ca : Addr} {a b : TE} (h : W K bx X0 H0 a ρ fun x => W K bx X0 H0 b ρ fun y => ∃ ms rs, x = .fi Ca (bookF ms rs) ∧ y = .fi Ca (bookF ms rs) ∧ BkSh ms rs ∧ Φ (.d (.bool true))) : W K bx X0 H0 (tOp (rEqG (DIns Ca (RBook K Ca))) a b) ρ Φ :=
  w_op (h.mono fun x q0 => W.mono q0 fun y ⟨ms, rs, e1, e2, sh, q⟩ X H E v u d1 d2 Q k => by
    subst e1 e2
    obtain ⟨p, dx, us, rfl, h1, h2⟩ := da_ins d1 rfl
    obtain ⟨r, dy, vs, rfl, h3, h4⟩ := da_ins d2 rfl
    exact ⟨⟨p, r, dx, dy, us, vs, rfl, rfl, h1, h3, dx, dy, us, vs, ms, rs, h1, h3, core_all h2, core_all h4, sh⟩, fun H' ex => k _ _ H' (.of ex) (ok_d (.bl _)) q⟩)
end
end Say

set_option Elab.async false
set_option linter.all false
set_option maxRecDepth 100000
set_option maxHeartbeats 4000000
/-! pairs in order -/
namespace Say
open PySem PySem.Spec PyProof.Rows L2
open PySem.W (dataLt)
def lexP (x y : Nat × Nat) : Prop := x.1 < y.1 ∨ x.1 = y.1 ∧ x.2 < y.2
theorem two_lt {p q : Nat × Nat} (h : lexP p q) : dataLt (twoD p) (twoD q) = true := by
  obtain ⟨a, b⟩ := p
  obtain ⟨c, d⟩ := q
  show PyProof.Rows.lexLt itemOrd [.inl 1, .inl (a : Int), .inl 1, .inl (b : Int), .inl 0] [.inl 1, .inl (c : Int), .inl 1, .inl (d : Int), .inl 0] = true
  rw [lex_self]
  rcases h with h | ⟨h1, h2⟩
  · have h' : a < c := h
    rw [lex_diff (fun e => by injection e with e; omega)]
    show decide ((a : Int) < (c : Int)) = true
    exact decide_eq_true (by omega)
  · have h1' : a = c := h1
    have h2' : b < d := h2
    subst h1'
    rw [lex_self, lex_self, lex_diff (fun e => by injection e with e; omega)]
    show decide ((b : Int) < (d : Int)) = true
    exact decide_eq_true (by omega)
theorem asc_flat {α β : Type} {l : List (Nat × α)} {m : List (Nat × β)} {p : Nat × α → Nat × β → Bool} (hl : l.Pairwise fun a b => a.1 < b.1) (hm : m.Pairwise fun a b => a.1 < b.1) :
    (l.flatMap fun a => (m.filter (p a)).map fun b => (a.1, b.1)).Pairwise lexP := by
  rw [List.pairwise_flatMap]
  refine ⟨fun a _ => ?_, hl.imp fun {a b} h x hx y hy => ?_⟩
  · rw [List.pairwise_map]
    exact (hm.filter _).imp fun h => .inr ⟨rfl, h⟩
  · obtain ⟨u, _, rfl⟩ := List.mem_map.mp hx
    obtain ⟨v, _, rfl⟩ := List.mem_map.mp hy
    exact .inl h
theorem numR_asc (rs : List Rl) : (numR rs).Pairwise fun a b => a.1 < b.1 := by
  unfold numR
  rw [List.pairwise_iff_getElem]
  intro i j hi hj h
  rw [List.getElem_mapIdx, List.getElem_mapIdx]
  exact h
theorem sideR_asc (s : Str) (rs : List Rl) : (sideR s rs).Pairwise fun a b => a.1 < b.1 := by
  unfold sideR
  rw [List.pairwise_map]
  exact ((numR_asc rs).filter _).imp fun h => h
theorem faceR_asc (rs : List Rl) : Asc twoD (faceR rs) := (asc_flat (sideR_asc _ rs) (sideR_asc _ rs)).imp two_lt
/-- the pairs as a law finds them, of the first n rules -/
def pairB (a b : Nat × Rl) : Bool := decide (a.2.1 = b.2.1) && (decide (a.2.2.1 = ("right" : Str)) && decide (b.2.2.1 = ("left" : Str)))
def pairUp (rs : List Rl) (n : Nat) : List (Nat × Nat) := ((numR rs).take n).flatMap fun a => ((numR rs).filter (pairB a)).map fun b => (a.1, b.1)
theorem pairUp_asc (rs : List Rl) (n : Nat) : Asc twoD (pairUp rs n) := (asc_flat ((numR_asc rs).sublist (List.take_sublist _ _)) (numR_asc rs)).imp two_lt
theorem numR_in {rs : List Rl} {i : Nat} {r : Rl} (h : rs[i]? = some r) : (i, r) ∈ numR rs := by
  unfold numR
  refine List.mem_of_getElem? (i := i) ?_
  rw [List.getElem?_mapIdx, h]
  rfl
theorem sideR_in {s : Str} {rs : List Rl} {i : Nat} {r : Rl} (h : rs[i]? = some r) (e : r.2.1 = s) : (i, r.1) ∈ sideR s rs := by
  unfold sideR
  exact List.mem_map.mpr ⟨(i, r), List.mem_filter.mpr ⟨numR_in h, decide_eq_true e⟩, rfl⟩
theorem faceR_iff {rs : List Rl} {p : Nat × Nat} : p ∈ faceR rs ↔ p ∈ pairUp rs rs.length := by
  have full : (numR rs).take rs.length = numR rs := by rw [← numR_len rs, List.take_length]
  unfold pairUp
  rw [full]
  constructor
  · intro h
    obtain ⟨r, l, h1, h2, h3, h4, h5⟩ := faceR_mem h
    refine List.mem_flatMap.mpr ⟨(p.1, r), numR_in h1, List.mem_map.mpr ⟨(p.2, l), List.mem_filter.mpr ⟨numR_in h2, ?_⟩, rfl⟩⟩
    unfold pairB
    rw [decide_eq_true h3, decide_eq_true h4, decide_eq_true h5]
    rfl
  · intro h
    obtain ⟨a, ha, h1⟩ := List.mem_flatMap.mp h
    obtain ⟨b, hb, rfl⟩ := List.mem_map.mp h1
    obtain ⟨hb1, hb2⟩ := List.mem_filter.mp hb
    unfold pairB at hb2
    simp only [Bool.and_eq_true, decide_eq_true_eq] at hb2
    obtain ⟨e1, e2, e3⟩ := hb2
    unfold faceR
    exact List.mem_flatMap.mpr ⟨(a.1, a.2.1), sideR_in (numR_mem ha) e2, List.mem_map.mpr ⟨(b.1, b.2.1), List.mem_filter.mpr ⟨sideR_in (numR_mem hb1) e3, decide_eq_true e1⟩, rfl⟩⟩
/-- a law's sorted pairs are those that face each other -/
theorem face_sorted (rs : List Rl) : ordB twoD (pairUp rs rs.length) = faceR rs := ordB_of (faceR_asc rs) fun _ => faceR_iff
theorem pairUp_len {rs : List Rl} (n : Nat) (h : rs.length ≤ 60) : (pairUp rs n).length ≤ 3600 := by
  have h1 : (pairUp rs n).length ≤ ((numR rs).take n).length * 60 := flat_len fun a _ => by
    rw [List.length_map]
    exact Nat.le_trans (List.length_filter_le _ _) (Nat.le_trans (Nat.le_of_eq (numR_len _)) h)
  have h2 : ((numR rs).take n).length ≤ 60 := by
    rw [List.length_take, numR_len]
    omega
  have h3 := Nat.mul_le_mul_right 60 h2
  omega
def twoK (p : Nat × Nat) : NestedKey := .tup [.num (p.1 : Nat), .num (p.2 : Nat)]
theorem ranked_two (ps : List (Nat × Nat)) : Ranked twoK ps := by
  refine ⟨fun a _ b _ h => ?_, fun b _ => (by show max 0 (max 0 0) + 1 ≤ 8; decide), fun a _ b _ => ?_, fun b _ => ⟨_, _, rfl⟩⟩
  · unfold twoK at h
    injection h with h
    injection h with h1 h2
    injection h1 with h1
    injection h2 with h2 _
    injection h2 with h2
    exact Prod.ext (by omega) (by omega)
  · show PySem.W.alike (.tuple [.int (a.1 : Nat), .int (a.2 : Nat)]) (.tuple [.int (b.1 : Nat), .int (b.2 : Nat)]) = true
    simp [PySem.W.alike, PySem.W.alikeAll]
end Say

set_option Elab.async false
set_option linter.all false
set_option maxRecDepth 100000
set_option maxHeartbeats 4000000
/-! dict(list of pairs); a, b = [..], e -/
namespace Say
open PySem PySem.Spec PyProof.Rows L2
def rDictL (K : PySem.W.Frag) : List V → Hp → VK → Prop := fun xs H Q => ∃ (a : Addr) (ps : List Addr) (kvs : List (Key × V)), xs = [.ref a] ∧ SqL K H a (ps.map V.ref) ∧ Paired (fun p kv => SqT K H p [kV kv.1, kv.2]) ps kvs ∧
  ∀ p, H p = none → Q (.ref p) (upd H p (.dK (mergeK [] kvs)))
def lst? : Dat → Option (List PyData)
  | .d (.list ys) => some ys
  | .ls ys => some ys
  | _ => none
section
variable {K : PySem.W.Frag} {bx X0 : Addr → Prop} {H0 : Hp} {ρ : Rho} {Φ : Dat → Prop} {N : Rho → Prop} {R : Dat → Prop} {B C : Rho → Prop}
theorem da_lst {X : Addr → Prop} {H : Hp} {v : V} {x : Dat} {ys : List PyData} (d : DaOk K bx X H v x) (e : lst? x = some ys) : ∃ a us, v = .ref a ∧ SqL K H a us ∧ DpAll K (core X H) us ys := by
  cases x with
  | d x =>
    cases x with
    | list zs =>
      cases e
      cases da_d d with
      | lst h1 h2 =>
        exact ⟨_, _, rfl, core_le.seq h1, h2⟩
    | _ => cases e
  | ls zs =>
    cases e
    obtain ⟨a, us, rfl, h1, h2⟩ := da_ls d
    exact ⟨a, us, rfl, SqL.of (core_le _ _ h1), h2⟩
  | _ => cases e
theorem w_dictL {t : TA} (h : WA K bx X0 H0 t ρ fun xs => ∃ x kvs, xs = [x] ∧ lst? x = some (kvs.map Say.pairD) ∧ Φ (.fm (mergeM kvs))) : W K bx X0 H0 (tCB (rDictL K) t) ρ Φ := fun X H σ e Q k =>
  h X H σ e _ fun vs xs H1 f d ⟨x, kvs, e1, e0, q⟩ => by
    subst e1
    obtain ⟨v, rfl, d2⟩ := da1 d
    obtain ⟨a, us, rfl, h1, h3⟩ := da_lst d2 e0
    obtain ⟨ps, kv, rfl, e2, e3, e4⟩ := refs_pairs h3
    have E2 := e.toEnX.go f
    refine ⟨a, ps, kv, rfl, h1, pairs_up core_le e2, fun p n => ?_⟩
    obtain ⟨us', z1, z2⟩ := merge_zip (acc := []) (us := []) e3 e4 .nil
    have z1' : mergeK [] kv = ((mergeM kvs).map (·.1)).zip us' := z1
    rw [z1']
    exact k _ (.fm (mergeM kvs)) _ (f.new n) ⟨p, us', rfl, core_of (E2.no n) upd_same fun ps z => (by cases z), dpAll_mono (core_fr (bx := bx) (.of (same_new n)) e.sub) _ _ z2⟩ q
/-- a, b = [..], e: the list may still change -/
theorem ws_parO {te t2 : TE} {i j : Nat} (ij : i ≠ j) (h : WF K bx X0 H0 te ρ fun xs => W K bx X0 H0 t2 ρ fun y => isO y = false ∧ ∀ D, N ((ρ.set i (some (.o D xs))).set j (some y))) : WS K bx X0 H0 (tPar i j (tCons te (tCons t2 tNil))) ρ N R B C :=
  ⟨fun Z X H σ s Dd d1 _ _ _ => h X H σ s.toEn _ fun D vs xs H1 f n a d q => by
    have nX : ¬ X D := s.toEnX.no n
    have n0 : H0 D = none := s.fr.free n
    have e2 := s.toEn.new f n a
    refine q (fun b => X b ∨ b = D) H1 σ e2 _ fun u y H2 f2 d2 ⟨o, q2⟩ => ⟨_, _, rfl, ?_⟩
    have nb : ¬ bx D := fun z => nX (s.sub D z)
    have a2 : H2 D = some (.lst vs) := f2.kp D _ nb (fun ps z => by cases z) a
    have d2' : DpAll K (core (fun b => X b ∨ b = D) H2) vs xs := dpAll_mono (core_fr f2 fun b z => .inl (s.sub b z)) _ _ d
    have s2 : Sx K bx X0 H0 Z (fun b => X b ∨ b = D) H2 (σ.set i (some (.ref D))) (ρ.set i (some (.o D xs))) := by
      refine ⟨(e2.go f2).set (ok_o (.inr rfl) nb a2 d2'), fun b z => z.elim (s.nw b) fun z => by rw [z]; exact .inr n0, s.d0, fun l y z D2 hD2 => ?_, same_tr s.kz (same_tr (core_new f s.sub n) (core_fr f2 fun b z => .inl (s.sub b z)))⟩
      by_cases c : l = i
      · subst c
        rw [List.getElem?_set, if_pos rfl] at z
        split at z
        · cases z
          cases hD2
          exact n0
        · cases z
      · rw [List.getElem?_set_ne (Ne.symm c)] at z
        exact s.ow l y z D2 hD2
    exact d1 _ _ H2 _ (q2 D) (s2.set' d2 o)⟩
end
end Say

set_option Elab.async false
set_option linter.all false
set_option maxRecDepth 100000
set_option maxHeartbeats 4000000
/-! premises that a law draws -/
namespace Say
open PySem PySem.Spec PyProof.Rows L2
structure DrP (n : Nat) (p : Pm) : Prop where
  a1 : p.1.Pairwise (· < ·)
  a2 : p.2.Pairwise (· < ·)
  rg : ∀ x ∈ p.1 ++ p.2, 1 ≤ x ∧ x ≤ (n : Int)
  l1 : p.1.length ≤ 3
  l2 : p.2.length ≤ 3
theorem filt_ints : ∀ l : List Int, (l.map PyData.int).filterMap intD = l
  | [] => rfl
  | x :: l => by
    show x :: (l.map PyData.int).filterMap intD = _
    rw [filt_ints l]
theorem ok_all {n : Nat} : ∀ {l : List Int}, (∀ x ∈ l, 1 ≤ x ∧ x ≤ (n : Int)) → (l.map PyData.int).all (okP n) = true
  | [], _ => rfl
  | x :: l, h => by
    obtain ⟨h1, h2⟩ := h x (List.mem_cons_self ..)
    have h0 : (0 : Int) ≤ x := by omega
    show ((decide ((0 : Int) ≤ x) && (decide (1 ≤ x) && decide (x ≤ (n : Int)))) && (l.map PyData.int).all (okP n)) = true
    rw [decide_eq_true h0, decide_eq_true h1, decide_eq_true h2, ok_all fun y hy => h y (List.mem_cons_of_mem _ hy)]
    rfl
theorem side_dr {n : Nat} {l : List Int} (h : ∀ x ∈ l, 1 ≤ x ∧ x ≤ (n : Int)) : sideD n (.tuple (l.map PyData.int)) = some l := by
  rw [side_good (es := l.map PyData.int) rfl (ok_all h), filt_ints]
theorem prem_dr {n : Nat} {p : Pm} (h : DrP n p) : premD n (pmD p) = some p := by
  obtain ⟨a, b⟩ := p
  have h1 := side_dr (n := n) (l := a) fun x hx => h.rg x (List.mem_append_left _ hx)
  have h2 := side_dr (n := n) (l := b) fun x hx => h.rg x (List.mem_append_right _ hx)
  show (match sideD n (.tuple (a.map PyData.int)), sideD n (.tuple (b.map PyData.int)) with
    | some l, some r => some (ordI l, ordI r)
    | _, _ => none) = _
  rw [h1, h2]
  show some (ordI a, ordI b) = some (a, b)
  rw [ordI_srt h.a1, ordI_srt h.a2]
theorem need_dr {n : Nat} : ∀ {ps : List Pm} {i : Nat}, (∀ p ∈ ps, DrP n p) → needGo n i (ps.map pmD) = .inr ps
  | [], _, _ => rfl
  | p :: ps, i, h => by
    show needGo n i (pmD p :: ps.map pmD) = _
    unfold needGo
    rw [prem_dr (h p (List.mem_cons_self ..)), need_dr fun q hq => h q (List.mem_cons_of_mem _ hq)]
theorem few_dr {n : Nat} {p : Pm} (h : DrP n p) : fewD (pmD p) := fun ds e s hs es e2 => by
  cases e
  rcases List.mem_cons.mp hs with rfl | hs
  · cases e2
    rw [List.length_map]
    have := h.l1
    omega
  · rcases List.mem_cons.mp hs with rfl | hs
    · cases e2
      rw [List.length_map]
      have := h.l2
      omega
    · cases hs
/-- the places of a mark -/
def markI (k : Int) (ns : List Int) : List Int := ((ns.mapIdx fun i m => ((i : Nat), m)).filter fun q => decide (q.2 = k)).map fun q => (q.1 : Int) + 1
theorem markI_asc (k : Int) (ns : List Int) : (markI k ns).Pairwise (· < ·) := by
  unfold markI
  rw [List.pairwise_map]
  refine List.Pairwise.filter _ ?_
  rw [List.pairwise_iff_getElem]
  intro i j hi hj h
  rw [List.getElem_mapIdx, List.getElem_mapIdx]
  show (i : Int) + 1 < (j : Int) + 1
  omega
theorem markI_rg {k : Int} {ns : List Int} {x : Int} (h : x ∈ markI k ns) : 1 ≤ x ∧ x ≤ (ns.length : Int) := by
  unfold markI at h
  obtain ⟨q, h1, rfl⟩ := List.mem_map.mp h
  obtain ⟨i, hi⟩ := List.mem_iff_getElem?.mp (List.mem_filter.mp h1).1
  rw [List.getElem?_mapIdx] at hi
  obtain ⟨m, hm, rfl⟩ := Option.map_eq_some_iff.mp hi
  have := (List.getElem?_eq_some_iff.mp hm).1
  show 1 ≤ (i : Int) + 1 ∧ (i : Int) + 1 ≤ _
  omega
theorem markI_len (k : Int) (ns : List Int) : (markI k ns).length ≤ ns.length := by
  unfold markI
  rw [List.length_map]
  refine Nat.le_trans (List.length_filter_le _ _) ?_
  rw [List.length_mapIdx]
  exact Nat.le_refl _
theorem mark_dr {n : Nat} {ns : List Int} (h : ns.length = n) (n3 : n ≤ 3) : DrP n (markI 1 ns, markI 2 ns) := by
  refine ⟨markI_asc _ _, markI_asc _ _, fun x hx => ?_, ?_, ?_⟩
  · rw [← h]
    rcases List.mem_append.mp hx with hx | hx <;> exact markI_rg hx
  · have := markI_len 1 ns
    show (markI 1 ns).length ≤ 3
    omega
  · have := markI_len 2 ns
    show (markI 2 ns).length ≤ 3
    omega
section
variable {K : PySem.W.Frag} {bx X0 : Addr → Prop} {H0 : Hp} {ρ : Rho}
/-- xs[:k] -/
theorem wf_cutTo {te th : TE} {Φ : List PyData → Prop} (h : W K bx X0 H0 te ρ fun x => W K bx X0 H0 th ρ fun y => ∃ (ys : List PyData) (k : Nat), lst? x = some ys ∧ y = .d (.int (k : Nat)) ∧ k ≤ ys.length ∧ Φ (ys.take k)) : WF K bx X0 H0 (tSl (rSlL K) te tNoPart (tPart th)) ρ Φ := fun X H σ e Q k =>
  h X H σ e _ fun v x H1 f1 d1 q1 => q1 X H1 σ (e.go f1) _ fun u y H2 f2 d2 ⟨ys, n, e1, e2, ln, q⟩ => by
    subst e2
    cases da_d d2
    obtain ⟨a, us, rfl, h1, h2⟩ := da_lst (da_fr f2 e.sub d1) e1
    have l := dpAll_len h2
    refine ⟨(n : Int), rfl, a, us, rfl, h1, fun p np => ?_⟩
    rw [cut_to (by omega)]
    refine k p (us.take n) (ys.take n) _ ((f1.trans f2).new np) ((f1.trans f2).free np) upd_same ?_ q
    rw [core_upd (.inr rfl)]
    refine dpAll_mono (fun b o z => ?_) _ _ (dpAll_take n h2)
    obtain ⟨n1, z1, z2⟩ := core_some z
    exact core_of (fun g => g.elim n1 fun g => by rw [g, np] at z1; cases z1) z1 z2
end
end Say

set_option Elab.async false
set_option linter.all false
set_option maxRecDepth 100000
set_option maxHeartbeats 4000000
/-! a lambda handed to a def at once -/
namespace Say
open PySem PySem.Spec PyProof.Rows L2 LamX
section
variable {X : Cx} {pins : List (Addr × Obj)} {σ : L2.St} {H : Hp} {s : Shared}
/-- a new lambda: all but the table at P stays -/
def tLamW (X : Cx) (P : Addr) (b : Lm) : TE := fun _ H Q => Tb P (X.env.qual ++ "<lambda>") H ∧ ∀ (f : Addr) (H1 : Hp), H f = none → (∀ d o, d ≠ P → H d = some o → H1 d = some o) → Tb P (X.env.qual ++ "<lambda>") H1 → IsLam X H1 f b → Q (.ref f) H1
theorem pe_lamW {P c : Addr} {b : Lm} {pos : Pos} (TB : TabB X.base X.mg c P) (hcode : X.env.code = .ref c) (L : LamS X.env.scope b.sc) (hdef : defaultsOf b.ps X.env = ([], []) := by rfl) : PE X (.Lambda b.ps b.bd b.sc pos) (tLamW X P b) := by
  refine ⟨fun pins s σ H Q I hh => ?_⟩
  obtain ⟨hT, go⟩ := hh
  have clo := closure_ok (L.has I.ok)
  obtain ⟨ps, hP, ht, ha⟩ := id hT
  have at1 : s.heap.get? P = some { cls := .none, data := .fields ps } := I.hok P _ hP
  have bi : s.heap.BuiltinsAt X.mg P := TB.bm.keeps I.bk
  have gl := I.mod.glob.keeps I.bk
  have hd := TB.code.keeps I.bk
  have fresh : ∀ {h' : Heap} {H0 : Hp} {t : Nat}, HOk X.prog X.w H0 h' → H0 h'.objs.size = none := fun hk => hk.fresh (Nat.le_refl _)
  refine PySem.W.kla_eval hdef ?_
  cases hc : codeAmong pos ps.toList with
  | some cv =>
    obtain ⟨c', e, hco⟩ := ha pos cv hc
    cases e
    refine PySem.W.kla_makeFunctionHit (mg := X.mg) (c := c) (P := P) (ps := ps) clo I.ok.glob gl hcode hd at1 ht hc bi fun ctv h' tk hx hsz => ?_
    have I0 : Inv X pins σ H { s with heap := h', toks := tk } := I.kept fun a o e => hx a o e
    have nf : H h'.objs.size = none := I0.hok.fresh (Nat.le_refl _)
    have I1 := I0.laid (a := h'.objs.size) (o := LamO X h'.objs.size b ((X.mg "__name__").getD .none) ctv c') (t' := tk) (h' := h'.push (lmObj X b ((X.mg "__name__").getD .none) ctv c')) (fun a u e => Heap.get?_push_of_some _ e) (Nat.le_refl _) (lamO_ok (Heap.get?_push_size _ rfl))
    obtain ⟨e1, t1⟩ := made_there (X := X) (b := b) (pm := (X.mg "__name__").getD .none) (ctv := ctv) (c := c') (ps := ps) (ExtN.refl H) hT nf
    exact ⟨.ref _, _, I1, rfl, go _ _ nf (fun d o _ z => by rw [upd_ne (ne_of_none z nf)]; exact z) t1 ⟨_, _, c', upd_same, e1 _ _ hco codeO_ne⟩⟩
  | none =>
    refine PySem.W.kla_makeFunction (mg := X.mg) (c := c) (P := P) (ps := ps) clo I.ok.glob gl hcode hd at1 ht hc TB.gP bi fun c' ctv h' tk hx hge hlt hrec htb => ?_
    obtain ⟨c2, oc, vs, t, e2, hoc, hdt, hv⟩ := hrec
    cases e2
    have I0 := inv_table (q := X.env.qual ++ "<lambda>") (t' := tk) (more := #[rawInt pos.line, rawInt pos.col, .ref c']) (h' := h') I hP hx htb hge ⟨oc, vs, t, hoc, hdt, hv⟩
    have nC : H c' = none := I.hok.fresh hge
    have hE : ExtN H (upd (upd H P (.tbl (ps ++ #[rawInt pos.line, rawInt pos.col, .ref c']))) c' (CodeO c' (X.env.qual ++ "<lambda>"))) := fun a o e n => by
      have n1 : a ≠ P := fun z => by
        rw [z, hP] at e
        exact n ps (Option.some.inj e).symm
      rw [upd_ne (ne_of_none e nC), upd_ne n1]
      exact e
    have t0 : TabS (upd (upd H P (.tbl (ps ++ #[rawInt pos.line, rawInt pos.col, .ref c']))) c' (CodeO c' (X.env.qual ++ "<lambda>"))) P (X.env.qual ++ "<lambda>") := by
      have eL : (ps ++ #[rawInt pos.line, rawInt pos.col, .ref c']).toList = ps.toList ++ [rawInt pos.line, rawInt pos.col, .ref c'] := by simp
      refine ⟨_, by rw [upd_ne (ne_of_none hP nC), upd_same], by rw [eL]; exact PySem.TriplesOk_snoc _ _ _ _ ht, fun p2 cv hcv => ?_⟩
      rw [eL] at hcv
      rcases among_app _ ht hcv with z | z
      · obtain ⟨c0, z1, z2⟩ := ha p2 cv z
        exact ⟨c0, z1, hE _ _ z2 codeO_ne⟩
      · exact ⟨c', z, upd_same⟩
    have nf := I0.hok.fresh (Nat.le_refl h'.objs.size)
    have nfH : H h'.objs.size = none := by
      refine I.hok.fresh (Nat.le_trans hge (Nat.le_of_lt hlt))
    have I1 := I0.laid (a := h'.objs.size) (o := LamO X h'.objs.size b ((X.mg "__name__").getD .none) ctv c') (t' := tk) (h' := h'.push (lmObj X b ((X.mg "__name__").getD .none) ctv c')) (fun a u e => Heap.get?_push_of_some _ e) (Nat.le_refl _) (lamO_ok (Heap.get?_push_size _ rfl))
    obtain ⟨e1, t1⟩ := made_there (X := X) (b := b) (pm := (X.mg "__name__").getD .none) (ctv := ctv) (c := c') (ps := ps) hE t0 nf
    refine ⟨.ref _, _, I1, rfl, go _ _ nfH (fun d o nd z => by rw [upd_ne (ne_of_none z nfH), upd_ne (ne_of_none z nC), upd_ne nd]; exact z) t1 ⟨_, _, c', upd_same, ?_⟩⟩
    rw [upd_ne (ne_of_none upd_same nf)]
    exact upd_same
end
section
variable {K : PySem.W.Frag} {bx X0 : Addr → Prop} {H0 : Hp} {ρ : Rho} {Φ : Dat → Prop}
theorem En.rebase {X : Addr → Prop} {H : Hp} {σ : L2.St} (e : En K bx X0 H0 X H σ ρ) : En K bx X H X H σ ρ := ⟨⟨e.sub, e.mu, e.bo, fun _ z => z, .refl H⟩, e.len, e.at_⟩
theorem fr_lam {H H1 : Hp} {P : Addr} (t0 : TabS H P qLam) (t1 : TabS H1 P qLam) (k : ∀ d o, d ≠ P → H d = some o → H1 d = some o) : Fr bx H H1 := by
  obtain ⟨ps, h1, h2, h3⟩ := id t0
  obtain ⟨qs, g1, _, _⟩ := id t1
  refine ⟨fun b o _ n h => k b o (fun z => by rw [z, h1] at h; exact n ps (Option.some.inj h).symm) h, fun b h => ?_, fun b _ h => ?_, fun Q t => ?_⟩
  · by_cases c : b = P
    · rw [c, g1]
      exact fun z => by cases z
    · cases e : H b with
      | none => exact absurd e h
      | some o =>
        rw [k b o c e]
        exact fun z => by cases z
  · obtain ⟨x, y, z, e⟩ := h
    exact ⟨x, y, z, k b _ (fun c => by rw [c, h1] at e; cases e) e⟩
  · by_cases c : Q = P
    · rw [c]
      exact t1
    · obtain ⟨rs, u1, u2, u3⟩ := t
      refine ⟨rs, k Q _ c u1, u2, fun pos cv e => ?_⟩
      obtain ⟨d, rfl, hd⟩ := u3 pos cv e
      exact ⟨d, rfl, k d _ (fun z => by rw [z, h1] at hd; unfold CodeO at hd; cases hd) hd⟩
/-- what a def that is handed a work makes of it: what it answers of what the work tells, of each error it catches -/
structure Heard where
  told : PyData → PyData
  err : Exn → PyData → Prop
/-- the reading of such a def -/
def HeardT (K : PySem.W.Frag) (h : Heard) : (XK → Hp → VK → Prop) → Hp → VK → Prop := fun tl H Q => ∃ (bx X : Addr → Prop) (Φ : Dat → Prop), EnX bx X H X H ∧
  (∀ v x H', Fr bx H H' → DaOk K bx X H' v x → Φ x → Q v H') ∧
  ∀ (E : XK) (Q' : VK), (∀ e y, h.err e y → Φ (.d y) → GivesE K bx X H E e) → (∀ v y H', Fr bx H H' → Dp K (core X H') v y → Φ (.d (h.told y)) → Q' v H') → tl E H Q'
/-- x(lambda: ..) -/
theorem w_giv {ι : Type} {C : Cx} {bs : ι → Lm} {tb : ι → XK → TE} {P : Addr} {h : Heard} (j : ι) (hq : C.env.qual ++ "<lambda>" = qLam) (hT : TabS H0 P qLam)
    (hb : ∀ (X0 : Addr → Prop) (H0 : Hp) (E : XK), (∀ e y, h.err e y → Φ (.d y) → GivesE K bx X0 H0 E e) → W K bx X0 H0 (tb j E) ρ fun x => ∃ y, dat? x = some y ∧ Φ (.d (h.told y))) : W K bx X0 H0 (tGiv C bs tb (HeardT K h) (tLamW C P (bs j))) ρ Φ := fun X H σ e Q k => by
  have t0 := e.fr.tb P hT
  refine ⟨by rw [hq]; exact t0, fun f H1 nf kp t1 il => ⟨f, j, rfl, il, ?_⟩⟩
  rw [hq] at t1
  have fr := fr_lam (bx := bx) t0 t1 kp
  have e1 := (e.go fr).rebase
  refine ⟨bx, X, Φ, e1.toEnX, fun v x H' f2 d q => k v x H' (fr.trans f2) d q, fun E Q' hE hQ => ?_⟩
  exact hb X H1 E hE X H1 σ e1 _ fun v x H2 f2 d ⟨y, e2, q⟩ => hQ v y H2 f2 (da_dp d e2) q
end
end Say

set_option Elab.async false
set_option linter.all false
set_option maxRecDepth 100000
set_option maxHeartbeats 4000000
/-! x(lambda), what it raises told of the very state -/
namespace Say
open PySem PySem.Spec PyProof.Rows L2 LamX
section
variable {X : Cx} {pins : List (Addr × Obj)} {σ : L2.St} {H : Hp} {s : Shared}
/-- x(e), e a lambda of X -/
theorem pe_givD {ι : Type} {bs : ι → Lm} {tb : ι → XK → TE} {TT : (XK → Hp → VK → Prop) → Hp → VK → Prop} {x a : Str} {g : Addr} {k : Nat} {pg : Arguments} {bg : List Stmt} {sg : Scope} {dvs : List V} {kws : List (Str × V)} {fd : FuncData} {Ng : List Str} {e : Expr} {te : TE} {p pos : Pos}
    (F : FunD X.K x x pg bg sg dvs kws g fd) (hb : L2.Binds X.K fd [a] []) (Sg : FnScope Ng [a] sg) (hNg : Ng[0]? = some a) (hva : Vis sg a) (hG : GivesS X Ng x sg g bg a TT) (hr : Room (k + 2) X.A) (hg : Gl X x) (hm : X.mg x = some (.ref g))
    (hB : ∀ j E, LmOk X k E (bs j) (tb j E)) (he : PE X e te) (hdb : (x == ("__debug__" : Str)) = false := by decide) (hd : (a == ("__debug__" : Str)) = false := by decide) (hcd : (a == ("__classdict__" : Str)) = false := by decide)
    (hst : starEach [e] X.env = (false, eval e X.env) :: starEach [] X.env := by rfl) : PE X (.Call (.Name x p) [e] [] pos) (tGiv X bs tb TT te) := by
  have hk := F.kp
  obtain ⟨oc, od, dV, kV, doc, pm, an, cdv, ct, osl, rfl, lk, hcg, _, _⟩ := F.ex
  refine ⟨fun pins s σ H Q I h => ?_⟩
  refine wpAny_Call_Name_kw (ld_glob I hg hm ?_ hdb)
  refine PySem.W.callWith_K (h₀ := X.base) I.ok.mod.kin hk ?_ hst (by rfl)
  rw [hst]
  show wpAny _ _ (spliced ((false, eval e X.env) :: backTo pos (starEach [] X.env))) _ _ s
  refine Calls.spliced_cons (thn (he.run pins s σ H _ I h) fun u s' hh => ?_)
  obtain ⟨v, H1, I1, rv, f, j, ev, hl, tt⟩ := hh
  subst ev
  obtain rfl : u = Value.ref f := rv
  refine Calls.spliced_nil ⟨I1.kIn, ?_⟩
  have rc : codeAny (model X.prog X.w) X.A (.call (.ref g) ⟨[.ref f], []⟩) (CR C8.CX0 X.stack X.prog X.w H1 s' Q C8.E0) s' := by
    refine run_ofS (N := Ng) (ps := [a]) (us := [.ref f]) (vs := [.ref f]) lk hcg Sg hr I1.env0 (hb s' [.ref f] I1.kIn rfl) (.cons rfl .nil) rfl fun hr' => ?_
    have act : ∀ (W : WX) (pn : List (Addr × Obj)) (xe : Value → Shared → Prop) (p1 p2 : Pos), Takes ((ZCx X Ng x sg g cdv s' H1).tr pn xe) W →
        PE ((ZCx X Ng x sg g cdv s' H1).tr pn xe) (.Call (.Name a p1) [] [] p2) (fun σZ HZ Q => σZ[0]? = some (some (.ref f)) ∧ IsLam X HZ f (bs j) ∧ tb j (WE W σZ) σ HZ Q) := fun W pn xe p1 p2 tk =>
      ⟨fun pinsZ sZ σZ HZ QZ IZ hZ => (pe_actS (i := 0) I1 tk hr' (fun E => hB j E) hNg hva hd hcd).run pinsZ sZ σZ HZ QZ IZ ⟨f, hZ.1, hZ.2.1, hZ.2.2⟩⟩
    obtain ⟨t', ht', hq'⟩ := hG cdv f (fun H => IsLam X H f (bs j)) s' H1 Q (fun E H' Q' => tb j E σ H' Q') (fun H H' e z => z.same e) act hl tt
    exact ⟨t', ht'.nox, hq'⟩
  refine wpAny_call (codeAny_mono rc fun r s2 hq => ?_)
  cases r with
  | error e => exact (show False from hq).elim
  | ok fl =>
    cases fl with
    | ret u => exact I1.after hq
    | next => exact False.elim hq
    | brk => exact False.elim hq
    | cont => exact False.elim hq
end
end Say

set_option Elab.async false
set_option linter.all false
set_option maxRecDepth 100000
set_option maxHeartbeats 4000000
/-! a new box: what stands behind is told with the box among the boxes -/
namespace Say
open PySem PySem.Spec PyProof.Rows L2
section
variable {K : PySem.W.Frag} {bx X0 : Addr → Prop} {H0 : Hp} {ρ : Rho} {N : Rho → Prop} {R : Dat → Prop} {B C : Rho → Prop}
theorem Fr.unbox {H1 H2 : Hp} {p : Addr} (f : Fr bx H0 H1) (n : H0 p = none) (g : Fr (fun b => bx b ∨ b = p) H1 H2) : Fr bx H0 H2 :=
  ⟨fun b o nb nt h => g.kp b o (fun z => z.elim nb fun z => by rw [z, n] at h; cases h) nt (f.kp b o nb nt h), fun b h => g.dm b (f.dm b h), fun b hb h => g.bo b (.inl hb) (f.bo b hb h), fun P t => g.tb P (f.tb P t)⟩
/-- as seen with fewer boxes -/
theorem da_unbox {by' X : Addr → Prop} {H : Hp} {v : V} (h : ∀ b, bx b → by' b) : ∀ {x : Dat}, DaOk K by' X H v x → DaOk K bx X H v x
  | .d _, e => e
  | .v _, e => e
  | .ls _, e => e
  | .pt _, e => e
  | .fm _, e => e
  | .fi _ _, e => e
  | .s _, e => e
  | .o D xs, ⟨e1, e2, e3, e4⟩ => ⟨e1, e2, fun z => e3 (h _ z), e4⟩
  | .m D xs, ⟨e1, e2, e3, e4⟩ => ⟨e1, e2, fun z => e3 (h _ z), e4⟩
  | .i D C xs, ⟨e1, e2, e3, e4⟩ => ⟨e1, e2, fun z => e3 (h _ z), e4⟩
theorem da_bx {by' X : Addr → Prop} {H : Hp} {v : V} : ∀ {x : Dat}, isO x = false → DaOk K bx X H v x → DaOk K by' X H v x
  | .d _, _, e => e
  | .v _, _, e => e
  | .ls _, _, e => e
  | .pt _, _, e => e
  | .fm _, _, e => e
  | .fi _ _, _, e => e
  | .s _, _, e => e
theorem ws_box {tb : TE} {i : Nat} {u : TS} (sb : ∀ b, bx b → X0 b) (no : ∀ (j : Nat) (x : Dat), ρ[j]? = some (some x) → isO x = false) (hb : ∀ (X : Addr → Prop) (H : Hp) (σ : L2.St), En K bx X0 H0 X H σ ρ → ∀ Q : VK, (∀ p H', Fr bx H H' → H p = none → BoxAt H' p → Q (.ref p) H') → tb σ H Q)
    (h : ∀ (p : Addr) (X1 : Addr → Prop) (H1 : Hp), (∀ b, X0 b → X1 b) → X1 p → Fr bx H0 H1 → WS K (fun b => bx b ∨ b = p) X1 H1 u (ρ.set i (some (.v (.ref p)))) N (fun x => isO x = false ∧ R x) B C) : WS K bx X0 H0 (tSeq (tAsg tb (gName i)) u) ρ N R B C :=
  ⟨fun Z X H σ s Dd d1 d2 d3 d4 => hb X H σ s.toEn _ fun p H1 f np bp => by
    have nX : ¬ X p := s.toEnX.no np
    have n0 : H0 p = none := s.fr.free np
    have cn : Same (core X H) (core (fun b => X b ∨ b = p) H1) := core_new f s.sub np
    have e1 := s.toEn.go f
    have st : Sx K (fun b => bx b ∨ b = p) (fun b => X b ∨ b = p) H1 (core (fun b => X b ∨ b = p) H1) (fun b => X b ∨ b = p) H1 (σ.set i (some (.ref p))) (ρ.set i (some (.v (.ref p)))) := by
      have en : En K (fun b => bx b ∨ b = p) (fun b => X b ∨ b = p) H1 (fun b => X b ∨ b = p) H1 σ ρ := by
        refine ⟨⟨fun b z => z.elim (fun z => .inl (s.sub b z)) .inr, fun b z => z.elim (e1.mu b) fun z => ?_, fun b z => z.elim (e1.bo b) fun z => by rw [z]; exact bp, fun b z => z, .refl H1⟩, s.len, fun j x hj => ?_⟩
        · obtain ⟨x, y, w, q⟩ := bp
          rw [z]
          exact ⟨_, q, mut_lst⟩
        · obtain ⟨v, g1, g2⟩ := s.at_ j x hj
          exact ⟨v, g1, da_bx (no j x hj) (daAll_same cn (no j x hj) g2)⟩
      refine ⟨en.set (x := .v (.ref p)) rfl, fun b z => .inl z, en.dm, fun j x hj D hD => ?_, fun _ _ z => z⟩
      by_cases c : j = i
      · subst c
        rw [List.getElem?_set, if_pos rfl] at hj
        split at hj
        · cases hj
          cases hD
        · cases hj
      · rw [List.getElem?_set_ne (Ne.symm c)] at hj
        rw [ownA_o (no j x hj)] at hD
        cases hD
    have back : ∀ {ρ' : Rho} {X' : Addr → Prop} {H' : Hp} {σ' : L2.St}, Sx K (fun b => bx b ∨ b = p) (fun b => X b ∨ b = p) H1 (core (fun b => X b ∨ b = p) H1) X' H' σ' ρ' → Sx K bx X0 H0 Z X' H' σ' ρ' := fun {ρ' X' H' σ'} s' => by
      refine ⟨⟨⟨fun b z => s'.sub b (.inl z), s'.mu, fun b z => s'.bo b (.inl z), fun b z => s'.s0 b (.inl (s.s0 b z)), (s.fr.trans f).unbox n0 s'.fr⟩, s'.len, fun j x hj => ?_⟩, fun b z => ?_, s.d0, fun j x hj D hD => (s.fr.trans f).free (s'.ow j x hj D hD), same_tr s.kz (same_tr cn s'.kz)⟩
      · obtain ⟨v, g1, g2⟩ := s'.at_ j x hj
        exact ⟨v, g1, da_unbox (fun b z => .inl z) g2⟩
      · rcases s'.nw b z with (z | z) | z
        · exact s.nw b z
        · rw [z]
          exact .inr n0
        · exact .inr ((s.fr.trans f).free z)
    refine (h p (fun b => X b ∨ b = p) H1 (fun b z => .inl (s.s0 b z)) (.inr rfl) (s.fr.trans f)).run _ _ _ _ st Dd (fun ρ' X' H' σ' q s' => d1 ρ' X' H' σ' q (back s')) (fun x v H' q e' d => ?_) (fun ρ' X' H' σ' q s' => d3 ρ' X' H' σ' q (back s')) (fun ρ' X' H' σ' q s' => d4 ρ' X' H' σ' q (back s'))
    refine d2 x v H' q.2 ⟨sb, fun b z => e'.mu b (.inl (s.s0 b z)), fun b z => e'.bo b (.inl z), fun b z => z, (s.fr.trans f).unbox n0 e'.fr⟩ (da_0 (fun b z => .inl (s.s0 b z)) q.1 (da_unbox (fun b z => .inl z) d))⟩
end
end Say

set_option Elab.async false
set_option linter.all false
set_option maxRecDepth 100000
set_option maxHeartbeats 4000000
/-! a call by one keyword; repr -/
namespace Say
universe u
open PySem PySem.Spec PyProof.Rows L2
def g1K {α : Type} : List α → List α → List α
  | [], [a] => [a]
  | _, _ => []
theorem g1K_rel {vs : List V} {us : List Value} {zs : List V} {ws : List Value} (h1 : Vals vs us) (h2 : Vals zs ws) : Vals (g1K vs zs) (g1K us ws) := by
  cases h1 with
  | cons _ _ => exact .nil
  | nil => cases h2 with
    | nil => exact .nil
    | cons r1 r2 => cases r2 with
      | nil => exact .cons r1 .nil
      | cons _ _ => exact .nil
section
variable {K : PySem.W.Frag} {bx X0 : Addr → Prop} {H0 : Hp} {ρ : Rho} {Φ : Dat → Prop}
/-- f(k=e) -/
theorem w_callK {α : Type u} {g : FnA α} {E : XK} {tk : TA} (h : WA K bx X0 H0 tk ρ fun xs => ∃ a x, xs = [x] ∧ [normD x] = g.args a ∧ isO x = false ∧ g.pre bx a ∧ (∀ y, g.post a y → Φ y) ∧ ∀ e, g.exn a e → GivesE K bx X0 H0 E e) : W K bx X0 H0 (tCallK (spA K g) g1K E tNil tk) ρ Φ := fun X H σ e Q k =>
  h X H σ e _ fun vs xs H1 f d ⟨a, x, e1, ea, ox, p, q, qe⟩ => by
    subst e1
    obtain ⟨v, rfl, d1⟩ := da1 d
    have e2 := e.toEnX.go f
    refine ⟨a, bx, X, ⟨e2.sub, e2.mu, e2.bo, fun _ z => z, .refl H1⟩, by rw [← ea]; exact .cons (norm_ok d1) .nil, fun y hy => ?_, p, fun y hy v H2 f2 dv => k v y H2 (f.trans f2) dv (q y hy), fun ex he H2 dd vs2 f2 dv hd => qe ex he H2 dd vs2 (e2.fr.trans f2) (dpAll_mono (core_sub e.s0) _ _ dv) hd⟩
    rw [← ea] at hy
    rw [List.mem_singleton.mp hy]
    exact norm_o ox
/-- repr(x), x no number and no text -/
theorem w_repr {t : TA} (h : WA K bx X0 H0 t ρ fun xs => ∃ x y, xs = [x] ∧ dat? x = some y ∧ (∀ i, y ≠ .int i) ∧ (∀ z, y ≠ .str z) ∧ y.showable = true ∧ y.hasDict = false ∧ y.depth ≤ 60 ∧ (PyData.shown y).length ≤ sizeLine ∧ Φ (.d (.str (PyData.shown y)))) : W K bx X0 H0 (tCB (rRepr K) t) ρ Φ := fun X H σ e Q k =>
  h X H σ e _ fun vs xs H1 f d ⟨x, y, e1, e2, n1, n2, s1, s2, s3, s4, q⟩ => by
    subst e1
    obtain ⟨v, rfl, d1⟩ := da1 d
    have dp := dp_mono core_le _ _ (da_dp d1 e2)
    refine ⟨v, y, rfl, dp, ?_, s1, s2, s3, s4, k _ _ H1 f (ok_d (.str _)) q⟩
    cases dp with
    | non => exact .inl rfl
    | bl b => exact .inr (.inl ⟨b, rfl⟩)
    | int i => exact absurd rfl (n1 i)
    | str z => exact absurd rfl (n2 z)
    | lst _ _ => exact .inr (.inr ⟨_, rfl⟩)
    | tup _ _ => exact .inr (.inr ⟨_, rfl⟩)
end
end Say

set_option Elab.async false
set_option linter.all false
set_option maxRecDepth 100000
set_option maxHeartbeats 4000000
/-! xs[::0 - 1] of a list; tests of bools and texts -/
namespace Say
open PySem PySem.Spec PyProof.Rows L2
theorem pe_revZ {X : Cx} {e : Expr} {te : TE} {p1 p2 p3 p4 pos : Pos} {k1 k2 : Nat} (K : PySem.W.Frag) (hK : X.K = K) (he : PE X e te) : PE X (.Subscript e (.Slice none none (some (.BinOp (.Constant (.int 0) k1 p1) .Sub (.Constant (.int 1) k2 p2) p4)) p3) pos) (tRevL K te) := by
  subst hK
  refine ⟨fun pins z σ H Q I hq => Subscript_ (thn (he.run pins z σ H _ I hq) fun v z1 hh => ?_)⟩
  obtain ⟨x, H1, I1, rx, a, xs, rfl, hs, q⟩ := hh
  cases rx
  have stp : PO X (some (.BinOp (.Constant (.int 0) k1 p1) .Sub (.Constant (.int 1) k2 p2) p4)) (tPart (tOp (rI0 fun i j => .int (i - j)) (tC (.int 0)) (tC (.int 1)))) := po_some (pe_op op_sub pe_int pe_int)
  refine wpAny_Slice (thn (po_none.run pins z1 σ H1 (fun o G => o = none ∧ G = H1) I1 ⟨rfl, rfl⟩) fun va z2 ⟨o2, H2, I2, pa, ea, ga⟩ => ?_)
  subst ea ga
  refine thn (po_none.run pins z2 σ H2 (fun o G => o = none ∧ G = H2) I2 ⟨rfl, rfl⟩) fun vb z3 ⟨o3, H3, I3, pb, eb, gb⟩ => ?_
  subst eb gb
  refine thn (stp.run pins z3 σ H3 (fun o G => o = some (-1) ∧ G = H3) I3 ⟨0, 1, rfl, rfl, -1, rfl, rfl, rfl⟩) fun vc z4 ⟨o4, H4, I4, pc, ec, gc⟩ => ?_
  subst ec gc
  have J : Inv X pins σ H4 { z4 with heap := z4.heap.push { cls := .type "slice", data := .fields #[va, vb, vc] } } := I4.kept (t' := z4.toks) fun b ob y => Heap.get?_push_of_some _ y
  obtain ⟨its, r, pl, hz⟩ := J.list hs
  have hl := r.length
  show wpAny (model X.prog X.w) X.A (subscriptTail e (.Slice none none (some (.BinOp (.Constant (.int 0) k1 p1) .Sub (.Constant (.int 1) k2 p2) p4)) p3) (.ref a) (.ref z4.heap.objs.size)) (EP X pins σ Q) X.xe { z4 with heap := z4.heap.push { cls := .type "slice", data := .fields #[va, vb, vc] } }
  refine tail_any (ops := [.ref a, .ref z4.heap.objs.size]) pl.isList.typeIs PySem.slot_list_getitem.lookup ?_ (by with_unfolding_all rfl)
  refine wpAny_getItem_list_slice pl.isList (Heap.IsSliceOf.new _ va vb vc) pa pb pc (by decide) ?_ (by rw [List.size_toArray]; omega)
  rw [PySem.W.krv_pick]
  exact ⟨.ref _, _, J.laid (t' := z4.toks) (o := .lst xs.reverse) (fun b ob y => Heap.get?_push_of_some _ y) (Nat.le_refl _) ⟨by rw [List.length_reverse]; exact hz, _, 0, r.reverse, Heap.get?_push_size _ rfl⟩, rfl, q _ (J.hok.fresh (Nat.le_refl _))⟩
section
variable {K : PySem.W.Frag} {bx X0 : Addr → Prop} {H0 : Hp} {ρ : Rho} {Φ : Dat → Prop}
theorem dpAll_rev {C : Hp} : ∀ {vs : List V} {ds : List PyData}, DpAll K C vs ds → DpAll K C vs.reverse ds.reverse
  | _, _, .nil => .nil
  | _, _, .cons a b => by
    rw [List.reverse_cons, List.reverse_cons]
    exact dpAll_app (dpAll_rev b) (.cons a .nil)
/-- xs[::-1] -/
theorem wf_rev {te : TE} {Φ : List PyData → Prop} (h : W K bx X0 H0 te ρ fun x => ∃ ys, lst? x = some ys ∧ Φ ys.reverse) : WF K bx X0 H0 (tRevL K te) ρ Φ := fun X H σ e Q k =>
  h X H σ e _ fun v x H1 f d ⟨ys, e1, q⟩ => by
    obtain ⟨a, us, rfl, h1, h2⟩ := da_lst d e1
    refine ⟨a, us, rfl, h1, fun p np => ?_⟩
    refine k p us.reverse ys.reverse _ (f.new np) (f.free np) upd_same ?_ q
    rw [core_upd (.inr rfl)]
    refine dpAll_mono (fun b o z => ?_) _ _ (dpAll_rev h2)
    obtain ⟨n1, z1, z2⟩ := core_some z
    exact core_of (fun g => g.elim n1 fun g => by rw [g, np] at z1; cases z1) z1 z2
end
end Say

set_option Elab.async false
set_option linter.all false
set_option maxRecDepth 100000
set_option maxHeartbeats 4000000
/-! bools and texts that are not the same -/
namespace Say
open PySem PySem.Spec PyProof.Rows L2
section
variable {K : PySem.W.Frag} {bx X0 : Addr → Prop} {H0 : Hp} {ρ : Rho} {Φ : Dat → Prop}
theorem w_neS {a b : TE} (h : W K bx X0 H0 a ρ fun x => W K bx X0 H0 b ρ fun y => ∃ i j, x = .d (.str i) ∧ y = .d (.str j) ∧ Φ (.d (.bool (!decide (i = j))))) : W K bx X0 H0 (tOp rNe a b) ρ Φ :=
  w_op (h.mono fun x q0 => W.mono q0 fun y ⟨i, j, e1, e2, q⟩ X H E v u d1 d2 Q k => by
    subst e1 e2
    cases da_d d1
    cases da_d d2
    have e : decide (V.str i = V.str j) = decide (i = j) := by by_cases c : i = j <;> simp [c]
    exact ⟨rfl, by rw [e]; exact k _ _ H (.refl H) (ok_d (Dp.bl _)) q⟩)
theorem w_neB {a b : TE} (h : W K bx X0 H0 a ρ fun x => W K bx X0 H0 b ρ fun y => ∃ i j : Bool, x = .d (.bool i) ∧ y = .d (.bool j) ∧ Φ (.d (.bool (!decide (i = j))))) : W K bx X0 H0 (tOp rNe a b) ρ Φ :=
  w_op (h.mono fun x q0 => W.mono q0 fun y ⟨i, j, e1, e2, q⟩ X H E v u d1 d2 Q k => by
    subst e1 e2
    cases da_d d1
    cases da_d d2
    have e : decide (V.bl i = V.bl j) = decide (i = j) := by by_cases c : i = j <;> simp [c]
    exact ⟨rfl, by rw [e]; exact k _ _ H (.refl H) (ok_d (Dp.bl _)) q⟩)
/-- is not, of bools -/
theorem w_notB {a b : TE} (h : W K bx X0 H0 a ρ fun x => W K bx X0 H0 b ρ fun y => ∃ i j : Bool, x = .d (.bool i) ∧ y = .d (.bool j) ∧ Φ (.d (.bool (!decide (i = j))))) : W K bx X0 H0 (tOp rNotB a b) ρ Φ :=
  w_op (h.mono fun x q0 => W.mono q0 fun y ⟨i, j, e1, e2, q⟩ X H E v u d1 d2 Q k => by
    subst e1 e2
    cases da_d d1
    cases da_d d2
    exact ⟨i, j, rfl, rfl, k _ _ H (.refl H) (ok_d (Dp.bl _)) q⟩)
/-- False not in [..] -/
theorem w_ninB {a b : TE} (h : W K bx X0 H0 a ρ fun x => W K bx X0 H0 b ρ fun y => ∃ (i : Bool) (ns : List Bool), x = .d (.bool i) ∧ seq? y = some (ns.map PyData.bool) ∧ Φ (.d (.bool (!decide (i ∈ ns))))) : W K bx X0 H0 (tOp (rIn K true) a b) ρ Φ :=
  w_op (h.mono fun x q0 => W.mono q0 fun y ⟨i, ns, e1, e2, q⟩ X H E v u d1 d2 Q k => by
    subst e1
    cases da_d d1
    obtain ⟨a, vs, rfl, h1, h2⟩ := da_seq d2 e2
    have := bls_dp h2
    subst this
    exact ⟨a, _, rfl, h1, rfl, flat_bls ns, by
      show Q (.bl (!inV (.bl i) (ns.map V.bl))) H
      rw [inV_bls]
      exact k _ _ H (.refl H) (ok_d (Dp.bl _)) q⟩)
end
end Say

set_option Elab.async false
set_option linter.all false
set_option maxRecDepth 100000
set_option maxHeartbeats 4000000
/-! for x in (a, b, c): values as they stand -/
namespace Say
open PySem PySem.Spec PyProof.Rows L2
section
variable {K : PySem.W.Frag} {bx X0 : Addr → Prop} {H0 : Hp} {ρ : Rho} {N : Rho → Prop} {R : Dat → Prop} {B C : Rho → Prop}
theorem ws_forV {ta : TA} {vs : List V} {i : Nat} {tb : TS} (few : vs.length ≤ 1000) (hta : ∀ (σ : L2.St) (H : Hp) (R : List V → Hp → Prop), R vs H → ta σ H R) (I : Nat → Rho → Prop) (i0 : I 0 ρ)
    (is : ∀ j v ρ', vs[j]? = some v → I j ρ' → WS K bx X0 H0 tb (ρ'.set i (some (.v v))) (I (j + 1)) R N (I (j + 1))) (ie : ∀ ρ', I vs.length ρ' → N ρ') : WS K bx X0 H0 (tFor (iSq K (tTup ta)) (gName i) tb) ρ N R B C :=
  ⟨fun Z X H σ s D d1 d2 d3 d4 => by
    have line : vs.length ≤ sizeLine := Nat.le_trans few (by decide)
    refine hta σ H _ ⟨line, fun p np => ⟨p, rfl, .inr ⟨⟨vs, SqT.of upd_same⟩, ?_⟩⟩⟩
    have fr : Fr bx H (upd H p (.tup vs)) := .of (same_new np)
    have s1 := s.go' fr
    have nX : ¬ X p := s.toEnX.no np
    have cp : core X (upd H p (.tup vs)) p = some (.tup vs) := core_of nX upd_same fun ps z => by cases z
    refine for_it (walk_tup (K := K) (a := p) (xs := vs)) (fun j σ' H' => ∃ ρ' X', I j ρ' ∧ Sx K bx X0 H0 (core X (upd H p (.tup vs))) X' H' σ' ρ') ⟨ρ, X, i0, ⟨s1.toEn, s1.nw, s1.d0, s1.ow, fun _ _ z => z⟩⟩ (fun j σ' H' hj q => ?_) (fun j v σ' H2 H3 hj q y => ?_) (fun σ' H' q => ?_)
    · obtain ⟨ρ', X', _, s2⟩ := q
      exact SqT.of (core_le _ _ (s2.kz _ _ cp))
    · obtain ⟨ρ', X', hI, s2⟩ := q
      obtain ⟨rfl, hv⟩ := y
      exact (is j v ρ' hv hI).run _ X' _ _ (s2.set' (x := .v v) rfl rfl) _ (fun ρ3 X3 H4 σ3 q s4 => ⟨ρ3, X3, q, s4⟩) d2 (fun ρ3 X3 H4 σ3 q s4 => d1 ρ3 X3 H4 σ3 q (s4.upto s1.kz)) (fun ρ3 X3 H4 σ3 q s4 => ⟨ρ3, X3, q, s4⟩)
    · obtain ⟨ρ', X', hI, s2⟩ := q
      exact d1 ρ' X' H' σ' (ie ρ' hI) (s2.upto s1.kz)⟩
end
end Say

set_option Elab.async false
set_option linter.all false
set_option maxRecDepth 100000
set_option maxHeartbeats 4000000
/-! a, b = (x, y) by way of the tuple; C(..) within a comprehension -/
namespace Say
open PySem PySem.Spec PyProof.Rows L2
section
variable {K : PySem.W.Frag} {bx X0 : Addr → Prop} {H0 : Hp} {ρ : Rho} {N : Rho → Prop} {R : Dat → Prop} {B C : Rho → Prop}
theorem ws_tup2 {ta : TA} {i j : Nat} (h : WA K bx X0 H0 ta ρ fun xs => ∃ x y, xs = [x, y] ∧ isO x = false ∧ isO y = false ∧ N ((ρ.set i (some x)).set j (some y))) : WS K bx X0 H0 (tAsg (tTup ta) (gTup K 2 (gCons (gName i) (gCons (gName j) gNil)))) ρ N R B C :=
  ⟨fun Z X H σ s D d1 _ _ _ => h X H σ s.toEn _ fun vs xs H1 f d ⟨x, y, e, o1, o2, q⟩ => by
    subst e
    cases d with
    | @cons v0 _ _ _ a r =>
      obtain ⟨u, rfl, b⟩ := da1 r
      have two : (2 : Nat) ≤ sizeLine := by decide
      refine ⟨two, fun p np => ?_⟩
      have f2 : Fr bx H1 (upd H1 p (.tup [v0, u])) := .of (same_new np)
      refine ⟨p, _, rfl, SqT.of upd_same, rfl, _, _, rfl, _, _, rfl, rfl, ?_⟩
      exact d1 _ X _ _ q ((((s.go' f).go' f2).set' (da_fr f2 s.sub a) o1).set' (da_fr f2 s.sub b) o2)⟩
end
theorem pe_giK {X : Cx} {CX : CXT} {k : Nat} {x : Str} {ps : List Str} {sp : Sp} {E : XK} {e : Expr} {es : List Expr} {t : TA} {p pos : Pos} (K : PySem.W.Frag) (hK : X.K = K) (h : GmS X.prog X.w K X.mg X.base CX k (He.ga K x) "__init__" ps sp) (hr : Room (k + 1) X.A) (hg : Gl X x) (hm : X.mg x = some (.ref (He.ga K x))) (M : Mk K (He.ga K x) (He.ma K (He.ga K x) "__init__")) (hx : Passes CX X E)
    (ha : PA X (e :: es) t) (hdb : (x == ("__debug__" : Str)) = false := by decide) (h1 : starEach (e :: es) X.env = (false, eval e X.env) :: starEach es X.env := by rfl) (h2 : (backTo pos (starEach es X.env)).any (·.1) = false := by rfl) :
    PE X (.Call (.Name x p) (e :: es) [] pos) (tMake (He.ga K x) sp [] E t) := by
  subst hK
  exact pe_gi h hr hg hm M hx ha hdb h1 h2
end Say

set_option Elab.async false
set_option linter.all false
set_option maxRecDepth 100000
set_option maxHeartbeats 4000000
/-! a list of works: (lambda, what is due), built by append, then asked one by one -/
namespace Say
open PySem PySem.Spec PyProof.Rows L2 LamX
/-- at v stands (f, u): f the lambda b made in C, u the datum d -/
def WkAt (K : PySem.W.Frag) (C : Cx) (X : Addr → Prop) (H : Hp) (v : V) (b : Lm) (d : PyData) : Prop := ∃ t f u, v = .ref t ∧ core X H t = some (.tup [.ref f, u]) ∧ Dp K (core X H) u d ∧ IsLam C H f b
theorem isLam_fr {bx : Addr → Prop} {C : Cx} {H H' : Hp} {f : Addr} {b : Lm} (fr : Fr bx H H') (bo : ∀ p, bx p → BoxAt H p) (h : IsLam C H f b) : IsLam C H' f b := by
  obtain ⟨pm, ctv, c, h1, h2⟩ := h
  refine ⟨pm, ctv, c, fr.kp _ _ (fun z => ?_) lamO_ne h1, fr.kp _ _ (fun z => ?_) codeO_ne h2⟩
  · obtain ⟨x, y, w, q⟩ := bo _ z
    rw [q] at h1
    unfold LamO at h1
    cases h1
  · obtain ⟨x, y, w, q⟩ := bo _ z
    rw [q] at h2
    unfold CodeO at h2
    cases h2
section
variable {K : PySem.W.Frag} {C : Cx} {bx X : Addr → Prop} {H H' : Hp} {v : V} {b : Lm} {d : PyData}
theorem WkAt.fr (h : WkAt K C X H v b d) (f : Fr bx H H') (sub : ∀ b, bx b → X b) (bo : ∀ p, bx p → BoxAt H p) : WkAt K C X H' v b d := by
  obtain ⟨t, g, u, e, h1, h2, h3⟩ := h
  exact ⟨t, g, u, e, core_fr f sub _ _ h1, dp_mono (core_fr f sub) _ _ h2, isLam_fr f bo h3⟩
theorem WkAt.upd {D : Addr} {xs ys : List V} (h : WkAt K C X H v b d) (hX : X D) (hD : H D = some (.lst xs)) : WkAt K C X (upd H D (.lst ys)) v b d := by
  obtain ⟨t, g, u, e, h1, h2, h3⟩ := h
  refine ⟨t, g, u, e, ?_, ?_, isLam_upd h3 hD⟩
  · rw [core_upd hX]
    exact h1
  · rw [core_upd hX]
    exact h2
end
/-- all of them -/
inductive WkAll (K : PySem.W.Frag) (C : Cx) (X : Addr → Prop) (H : Hp) : List V → List (Lm × PyData) → Prop where
  | nil : WkAll K C X H [] []
  | cons {v : V} {vs : List V} {e : Lm × PyData} {es : List (Lm × PyData)} : WkAt K C X H v e.1 e.2 → WkAll K C X H vs es → WkAll K C X H (v :: vs) (e :: es)
section
variable {K : PySem.W.Frag} {C : Cx} {bx X : Addr → Prop} {H H' : Hp}
theorem WkAll.imp {Y : Addr → Prop} (h : ∀ v b d, WkAt K C X H v b d → WkAt K C Y H' v b d) : ∀ {vs : List V} {es : List (Lm × PyData)}, WkAll K C X H vs es → WkAll K C Y H' vs es
  | _, _, .nil => .nil
  | _, _, .cons a r => .cons (h _ _ _ a) (r.imp h)
theorem WkAll.app {v : V} {e : Lm × PyData} (a : WkAt K C X H v e.1 e.2) : ∀ {vs : List V} {es : List (Lm × PyData)}, WkAll K C X H vs es → WkAll K C X H (vs ++ [v]) (es ++ [e])
  | _, _, .nil => .cons a .nil
  | _, _, .cons x r => .cons x (r.app a)
theorem WkAll.len : ∀ {vs : List V} {es : List (Lm × PyData)}, WkAll K C X H vs es → vs.length = es.length
  | _, _, .nil => rfl
  | _, _, .cons a r => by rw [List.length_cons, List.length_cons, r.len]
theorem WkAll.at_ : ∀ {vs : List V} {es : List (Lm × PyData)} {j : Nat} {v : V}, WkAll K C X H vs es → vs[j]? = some v → ∃ e, es[j]? = some e ∧ WkAt K C X H v e.1 e.2
  | _, _, 0, _, .cons a _, e => by
    cases e
    exact ⟨_, rfl, a⟩
  | _, _, j + 1, _, .cons _ r, e => r.at_ (j := j) e
end
section
variable (K : PySem.W.Frag) (bx X0 : Addr → Prop) (H0 : Hp)
/-- a statement behind which, and ahead of which, slot i holds a list of works -/
structure WQ (C : Cx) (t : TS) (i : Nat) (es : List (Lm × PyData)) (ρ : Rho) (N : Rho → Prop) (R : Dat → Prop) (B Ct : Rho → Prop) : Prop where
  run : ∀ (Z : Hp) (X : Addr → Prop) (H : Hp) (σ : L2.St) (D : Addr) (vs : List V), Sx K bx X0 H0 Z X H σ ρ → X D → ¬ bx D → H0 D = none → σ[i]? = some (some (.ref D)) → H D = some (.lst vs) → WkAll K C X H vs es →
    (∀ (j : Nat) (x : Dat), ρ[j]? = some (some x) → ownA x ≠ some D) → ∀ E : Ends,
    (∀ ρ' X' H' σ', N ρ' → Sx K bx X0 H0 Z X' H' σ' ρ' → E.nx σ' H') → (∀ x v H', R x → EnX bx X0 H0 X0 H' → DaOk K bx X0 H' v x → E.rt v H') →
    (∀ ρ' X' H' σ', B ρ' → Sx K bx X0 H0 Z X' H' σ' ρ' → E.bk σ' H') → (∀ ρ' X' H' σ', Ct ρ' → Sx K bx X0 H0 Z X' H' σ' ρ' → E.ct σ' H') → t E σ H
end
section
variable {K : PySem.W.Frag} {bx X0 : Addr → Prop} {H0 : Hp} {ρ : Rho} {N : Rho → Prop} {R : Dat → Prop} {B Ct : Rho → Prop} {C : Cx}
/-- (lambda, due): what stands behind it -/
theorem work_go {P : Addr} {b : Lm} {td : TE} {Ψ : PyData → Prop} (hq : C.env.qual ++ "<lambda>" = qLam) (hT : TabS H0 P qLam) (h : W K bx X0 H0 td ρ fun x => ∃ y, dat? x = some y ∧ Ψ y)
    {X : Addr → Prop} {H : Hp} {σ : L2.St} (e : En K bx X0 H0 X H σ ρ) (Q : VK) (k : ∀ v y H', Fr bx H H' → WkAt K C X H' v b y → Ψ y → Q v H') : tTup (tCons (tLamW C P b) (tCons td tNil)) σ H Q := by
  have t0 := e.fr.tb P hT
  have two : (2 : Nat) ≤ sizeLine := by decide
  refine ⟨by rw [hq]; exact t0, fun f H1 nf kp t1 il => ?_⟩
  rw [hq] at t1
  have fr := fr_lam (bx := bx) t0 t1 kp
  have e1 := e.go fr
  refine h X H1 σ e1 _ fun v x H2 f2 dx ⟨y, e2, q⟩ => ⟨two, fun p np => ?_⟩
  have e3 := e1.go f2
  have f3 : Fr bx H2 (upd H2 p (.tup [.ref f, v])) := .of (same_new np)
  have e4 := e3.go f3
  refine k (.ref p) y _ (fr.trans (f2.trans f3)) ⟨p, f, v, rfl, core_of (e3.toEnX.no np) upd_same (fun ps z => by cases z), ?_, ?_⟩ q
  · exact dp_mono (core_fr f3 e.sub) _ _ (da_dp dx e2)
  · exact isLam_fr f3 e3.bo (isLam_fr f2 e1.bo il)
/-- works = [(lambda, due)] -/
theorem wq_new {P : Addr} {b : Lm} {td : TE} {i : Nat} {u : TS} (hq : C.env.qual ++ "<lambda>" = qLam) (hT : TabS H0 P qLam)
    (h : W K bx X0 H0 td ρ fun x => ∃ y, dat? x = some y ∧ WQ K bx X0 H0 C u i [(b, y)] (ρ.set i none) N R B Ct) (hi : i < ρ.length) : WS K bx X0 H0 (tSeq (tAsg (tLst (tCons (tTup (tCons (tLamW C P b) (tCons td tNil))) tNil)) (gName i)) u) ρ N R B Ct :=
  ⟨fun Z X H σ s E d1 d2 d3 d4 => by
    have one : (1 : Nat) ≤ sizeLine := by decide
    show tTup (tCons (tLamW C P b) (tCons td tNil)) σ H fun v H1 => (1 : Nat) ≤ sizeLine ∧ ∀ p, H1 p = none → u E (σ.set i (some (.ref p))) (upd H1 p (.lst [v]))
    refine work_go hq hT h s.toEn _ fun v y H1 f wk q => ⟨one, fun D nD => ?_⟩
    have s1 := s.go' f
    have nX : ¬ X D := s1.toEnX.no nD
    have nb : ¬ bx D := fun z => nX (s.sub D z)
    have n0 : H0 D = none := s1.fr.free nD
    have f2 : Fr bx H1 (upd H1 D (.lst [v])) := .of (same_new nD)
    have e2 := s1.toEn.new f2 nD upd_same
    have cn := core_new (D := D) f2 s.sub nD
    have no : ∀ (j : Nat) (x : Dat), ρ[j]? = some (some x) → ownA x ≠ some D := fun j x hj z => by
      obtain ⟨u, _, g⟩ := s1.at_ j x hj
      cases x <;> first | (cases z; exact nX g.2.1) | cases z
    refine q.run Z (fun b => X b ∨ b = D) _ _ D [v] ⟨e2.off, fun b z => z.elim (s.nw b) fun z => by rw [z]; exact .inr n0, s.d0, fun j x hj D2 hD2 => ?_, same_tr s1.kz cn⟩ (.inr rfl) nb n0 ?_ upd_same (.cons ?_ .nil) (fun j x hj => ?_) E d1 d2 d3 d4
    · by_cases c : j = i
      · subst c
        rw [List.getElem?_set, if_pos rfl] at hj
        split at hj <;> cases hj
      · rw [List.getElem?_set_ne (Ne.symm c)] at hj
        exact s.ow j x hj D2 hD2
    · rw [List.getElem?_set, if_pos rfl, if_pos (by rw [s.len]; exact hi)]
    · obtain ⟨t, g, u, e, h1, h2, h3⟩ := wk.fr f2 s.sub s1.bo
      exact ⟨t, g, u, e, core_of (fun z => z.elim (core_some h1).1 fun z => by
        have := (core_some h1).2.1
        rw [z, upd_same] at this
        cases this) (core_some h1).2.1 (fun ps z => by cases z), by
          obtain ⟨t', g', u', e', h1', h2', h3'⟩ := wk
          rw [e] at e'
          cases e'
          have q1 := core_fr f2 s.sub _ _ h1'
          rw [h1] at q1
          cases q1
          exact dp_mono cn _ _ h2', h3⟩
    · by_cases c : j = i
      · subst c
        rw [List.getElem?_set, if_pos rfl] at hj
        split at hj <;> cases hj
      · rw [List.getElem?_set_ne (Ne.symm c)] at hj
        exact no j x hj⟩
/-- a change of a list that no slot holds as its own -/
theorem Sx.chgN {Z : Hp} {X : Addr → Prop} {H : Hp} {σ : L2.St} {D : Addr} {vs us : List V} (s : Sx K bx X0 H0 Z X H σ ρ) (hX : X D) (hb : ¬ bx D) (n0 : H0 D = none) (hD : H D = some (.lst vs)) (no : ∀ (j : Nat) (x : Dat), ρ[j]? = some (some x) → ownA x ≠ some D) :
    Sx K bx X0 H0 Z X (upd H D (.lst us)) σ ρ := by
  have cu : core X (upd H D (.lst us)) = core X H := core_upd hX
  refine ⟨⟨⟨s.sub, fun b z => ?_, fun b z => ?_, s.s0, s.fr.upd n0 hb (nc_lst hD)⟩, s.len, fun j x hj => ?_⟩, s.nw, s.d0, s.ow, by rw [cu]; exact s.kz⟩
  · by_cases z2 : b = D
    · rw [z2, upd_same]
      exact ⟨_, rfl, mut_lst⟩
    · rw [upd_ne z2]
      exact s.mu b z
  · obtain ⟨x, y, z2, q⟩ := s.bo b z
    exact ⟨x, y, z2, by rw [upd_ne (fun z3 => hb (by rw [← z3]; exact z))]; exact q⟩
  · obtain ⟨u, g1, g2⟩ := s.at_ j x hj
    have nn := no j x hj
    refine ⟨u, g1, ?_⟩
    cases x with
    | d x =>
      show Dp K (core _ _) u x
      rw [cu]
      exact da_d g2
    | v x => exact g2
    | ls xs =>
      obtain ⟨a, us, rfl, k1, k2⟩ := da_ls g2
      exact ⟨a, us, rfl, by rw [cu]; exact k1, by rw [cu]; exact k2⟩
    | pt zs =>
      obtain ⟨a, o, us, rfl, k1, k2, k3⟩ := da_pt g2
      exact ⟨a, o, us, rfl, by rw [cu]; exact k1, k2, by rw [cu]; exact k3⟩
    | fm zs =>
      obtain ⟨a, us, rfl, k1, k2⟩ := da_fm g2
      exact ⟨a, us, rfl, by rw [cu]; exact k1, by rw [cu]; exact k2⟩
    | fi C fs =>
      obtain ⟨a, dx, us, rfl, k1, k2⟩ := da_fi g2
      exact ⟨a, dx, us, rfl, by rw [cu]; exact k1, by rw [cu]; exact k2⟩
    | i D2 C fs =>
      obtain ⟨rfl, k1, k2, dx, us, k3, k4⟩ := da_i g2
      have nd : D2 ≠ D := fun q => nn (congrArg some q)
      exact ⟨rfl, k1, k2, dx, us, by rw [upd_ne nd]; exact k3, by rw [cu]; exact k4⟩
    | m D2 zs =>
      obtain ⟨rfl, k1, k2, us, k3, k4⟩ := da_m g2
      have nd : D2 ≠ D := fun q => nn (congrArg some q)
      exact ⟨rfl, k1, k2, us, by rw [upd_ne nd]; exact k3, by rw [cu]; exact k4⟩
    | o D2 zs =>
      obtain ⟨rfl, k1, k2, us, k3, k4⟩ := da_o g2
      have nd : D2 ≠ D := fun q => nn (congrArg some q)
      exact ⟨rfl, k1, k2, us, by rw [upd_ne nd]; exact k3, by rw [cu]; exact k4⟩
    | s P =>
      intro H2 s2
      rw [cu] at s2
      exact g2 H2 s2
/-- works.append((lambda, due)) -/
theorem wq_app {P : Addr} {b : Lm} {td : TE} {i : Nat} {u : TS} {es : List (Lm × PyData)} (hq : C.env.qual ++ "<lambda>" = qLam) (hT : TabS H0 P qLam) (few : es.length < 100000)
    (h : W K bx X0 H0 td ρ fun x => ∃ y, dat? x = some y ∧ WQ K bx X0 H0 C u i (es ++ [(b, y)]) ρ N R B Ct) : WQ K bx X0 H0 C (tSeq (tDrop (tBM K "list" rAppend (tVar i) (tCons (tTup (tCons (tLamW C P b) (tCons td tNil))) tNil))) u) i es ρ N R B Ct :=
  ⟨fun Z X H σ D vs s hX hb n0 hi hD wk no E d1 d2 d3 d4 => by
    refine ⟨_, hi, .inl ⟨rfl, _, SqL.of hD⟩, work_go hq hT h s.toEn _ fun v y H1 f w1 q => ?_⟩
    have big : 100000 ≤ sizeLine := by decide
    have s1 := s.go' f
    have hD1 := f.kp _ _ hb (fun ps z => by cases z) hD
    have wk1 : WkAll K C X H1 vs es := wk.imp fun v b d w => w.fr f s.sub s.bo
    refine ⟨D, vs, v, rfl, rfl, hD1, by rw [wk.len]; omega, ?_⟩
    exact q.run Z X _ σ D (vs ++ [v]) (s1.chgN hX hb n0 hD1 no) hX hb n0 hi upd_same ((wk1.app (e := (b, y)) w1).imp fun v b d w => w.upd hX hD1) no E d1 d2 d3 d4⟩
/-- what a work's answer must be -/
def Due (d y : PyData) : Prop := SeqAt.shaped y = true ∧ SeqAt.shaped d = true ∧ PyData.eqv y d = true
theorem Due.self {d : PyData} (h : SeqAt.shaped d = true) : Due d d := ⟨h, h, eqv_self h⟩
/-- if [work for work, due in works if error(work) != due] != []: .. -/
theorem wq_end {ι : Type} {bs : ι → Lm} {tb : ι → XK → TE} {hd : Heard} {i a b : Nat} {es : List (ι × PyData)} {tr : TS} (ab : a ≠ b) (la : a < ρ.length) (lb : b < ρ.length)
    (hb : ∀ e ∈ es, ∀ (X1 : Addr → Prop) (H1 : Hp) (E : XK), (∀ x y, hd.err x y → Due e.2 y → GivesE K bx X1 H1 E x) → W K bx X1 H1 (tb e.1 E) ρ fun x => ∃ y, dat? x = some y ∧ Due e.2 (hd.told y)) (q : N ρ) (ia : i ≠ a) (ib : i ≠ b) :
    WQ K bx X0 H0 C (tIfS (tTest (tOp (rNeD K) (fun σ H Q => tLc (iSq K (tVar i)) (gTup K 2 (gCons (gName a) (gCons (gName b) gNil))) (tTest (tOp (rNeD K) (tGivS C σ bs tb (HeardT K hd) (tVar a)) (tVar b))) (tVar a) [a, b] σ H Q) (tLst tNil))) tr tNext) i (es.map fun e => (bs e.1, e.2)) ρ N R B Ct :=
  ⟨fun Z X H σ D vs s hX hbD n0 hi hD wk no E d1 d2 d3 d4 => by
    have zero : (0 : Nat) ≤ sizeLine := by decide
    have ls : σ.length = ρ.length := s.len
    refine ⟨_, hi, D, rfl, .inl ⟨⟨vs, SqL.of hD⟩, fun L nL => ?_⟩⟩
    have nXL : ¬ X L := s.toEnX.no nL
    refine lc_it (walk_list (K := K) (a := D) (xs := vs)) (fun _ H' => Fr bx H H' ∧ H' L = some (.lst [])) ⟨.of (same_new nL), upd_same⟩ (fun j H' hj p => SqL.of (p.1.kp _ _ hbD (fun ps z => by cases z) hD)) (fun j x H2 H3 hj p y => ?_) (fun H' p => ?_)
    · obtain ⟨rfl, hx⟩ := y
      obtain ⟨f2, hL⟩ := p
      have s2 := s.go' f2
      have nbL : ¬ bx L := fun z => nXL (s.sub L z)
      obtain ⟨e, he, w2⟩ := (wk.imp fun v b d w => w.fr f2 s.sub s.bo).at_ hx
      rw [List.getElem?_map] at he
      obtain ⟨e0, he0, rfl⟩ := Option.map_eq_some_iff.mp he
      obtain ⟨t, f, u, rfl, h1, h2, h3⟩ := w2
      have ga : ((L2.wipe σ [a, b]).set a (some (V.ref f)))[a]? = some (some (.ref f)) := by
        rw [List.getElem?_set, if_pos rfl, if_pos (by rw [wipe_length, ls]; exact la)]
      have ga2 : (((L2.wipe σ [a, b]).set a (some (V.ref f))).set b (some u))[a]? = some (some (.ref f)) := by
        rw [List.getElem?_set_ne (Ne.symm ab)]
        exact ga
      have gb2 : (((L2.wipe σ [a, b]).set a (some (V.ref f))).set b (some u))[b]? = some (some u) := by
        rw [List.getElem?_set, if_pos rfl, if_pos (by rw [List.length_set, wipe_length, ls]; exact lb)]
      refine ⟨t, _, rfl, SqT.of (core_le _ _ h1), rfl, _, _, rfl, _, _, rfl, rfl, ?_, ?_⟩
      · rw [wipe_set (List.mem_cons_of_mem _ (List.mem_singleton.mpr rfl)), wipe_set (List.mem_cons_self ..), wipe_wipe]
      · refine ⟨_, ga2, f, e0.1, rfl, h3, bx, X, (fun x => ∃ y, x = .d y ∧ Due e0.2 y), s2.toEn.rebase.toEnX, fun v x H4 f4 dx hx2 => ?_, fun E1 Q1 hE hQ => ?_⟩
        · obtain ⟨y, rfl, sy, sd, ev⟩ := hx2
          refine ⟨_, gb2, y, e0.2, dp_mono core_le _ _ (da_d dx), dp_mono core_le _ _ (dp_mono (core_fr f4 s.sub) _ _ h2), sy, sd, ⟨_, rfl, ?_⟩⟩
          rw [ev]
          exact ⟨f2.trans f4, f4.kp _ _ nbL (fun ps z => by cases z) hL⟩
        · exact hb e0 (List.mem_of_getElem? he0) X H3 E1 (fun x y hx hy => hE x y hx ⟨y, rfl, hy⟩) X H3 σ s2.toEn.rebase _ fun v x H4 f4 dx hx2 => by
            obtain ⟨y, e2, du⟩ := hx2
            exact hQ v y H4 f4 (da_dp dx e2) ⟨_, rfl, du⟩
    · obtain ⟨f2, hL⟩ := p
      refine ⟨zero, fun q2 nq => ?_⟩
      have s6 := same_new (o := .lst []) nq
      refine ⟨.list [], .list [], .lst (SqL.of (s6 _ _ hL)) .nil, .lst (SqL.of upd_same) .nil, by decide, by decide, ⟨_, rfl, ?_⟩⟩
      exact d1 ρ X _ σ q ((s.go' f2).go' (.of s6))⟩
end
end Say

set_option Elab.async false
set_option linter.all false
set_option maxRecDepth 100000
set_option maxHeartbeats 4000000
/-! == and != of two instances by the own == of their class, whatever it answers -/
namespace Say
open PySem PySem.Spec PyProof.Rows L2
/-- what the own == of a class promises of two of its instances -/
def spEqC (R : Addr → Addr → Hp → Bool → Prop) : Sp := fun vs H Q _ => ∃ a b c, vs = [.ref a, .ref b] ∧ R a b H c ∧ ∀ H', Ext H H' → Q (.bl c) H'
def rOwn (neg : Bool) (C : Addr) (R : Addr → Addr → Hp → Bool → Prop) : R2 := fun x y H Q => ∃ a b dx dy fs gs c, x = .ref a ∧ y = .ref b ∧ H a = some (.ins C dx fs) ∧ H b = some (.ins C dy gs) ∧ R a b H c ∧ ∀ H', Ext H H' → Q (.bl (neg != c)) H'
/-- the class has no != of its own -/
structure NeOf (K : PySem.W.Frag) (C : Addr) : Prop where
  at_ : PySem.W.findIn K (.ref C) "__ne__" = some (some (.builtin "object.__ne__"))
section
variable {X : Cx} {n : Nat} {CX : CXT} {C f : Addr} {fd : FuncData} {ps : List Str} {R : Addr → Addr → Hp → Bool → Prop} {E : XK}
theorem own_call (F : FnOk X.prog X.w X.K X.mg X.base CX n f fd ps (spEqC R)) (hb : Binds X.K fd ps []) (hx : Passes CX X E) {A : Around} {pins : List (Addr × Obj)} {s : Shared} {σ : L2.St} {H : Hp} {a b : Addr} {c : Bool} (sb : Sub X n A) (I : Inv X pins σ H s) (hr : R a b H c) :
    wpAny (model X.prog X.w) A (call (.ref f) [.ref a, .ref b]) (fun v s' => v = .bool c ∧ ∃ H', Inv X pins σ H' s' ∧ Ext H H') X.xe s := by
  have hsp : spEqC R [.ref a, .ref b] H (fun v H' => v = .bl c ∧ Ext H H') E := ⟨a, b, c, rfl, hr, fun H' e => ⟨rfl, e⟩⟩
  have e0 : Env0 X.prog X.w X.K X.mg X.base A X.stack s H := by
    have e := I.env0
    exact ⟨by rw [sb.fr]; exact e.frames, e.mod, e.bs, e.bsz, e.funs, e.frf, e.hok, e.bare⟩
  have hl := F.len _ _ _ _ hsp
  have r2 : Vals [V.ref a, V.ref b] [Value.ref a, Value.ref b] := .cons rfl (.cons rfl .nil)
  refine wpAny_call (codeAny_mono (F.run A X.stack s H ⟨[.ref a, .ref b], []⟩ [.ref a, .ref b] [.ref a, .ref b] _ E sb.room e0 (by
    have := hb s [.ref a, .ref b] I.kIn (by simpa using hl)
    simpa using this) r2 hsp) fun r s' hq => ?_)
  cases r with
  | error e => exact hx pins σ H s e s' I hq
  | ok fl =>
    cases fl with
    | ret w =>
      obtain ⟨z, H', I', rz, ez, ex⟩ := I.after hq
      subst ez
      cases rz
      exact ⟨rfl, H', I', ex⟩
    | next => exact False.elim hq
    | brk => exact False.elim hq
    | cont => exact False.elim hq
theorem op_eqC (F : FnOk X.prog X.w X.K X.mg X.base CX n f fd ps (spEqC R)) (hs : PySem.W.findIn X.K (.ref C) "__eq__" = some (some (.ref f))) (hf : PySem.W.isFn X.K (.ref f) = true) (hb : Binds X.K fd ps []) (hx : Passes CX X E) (hr : Room n X.A) : OpR X (compareOp .Eq) (rOwn false C R) := by
  intro pins s σ H x y v u Q I rx ry hq
  obtain ⟨a, b, dx, dy, fs, gs, c, rfl, rfl, ha, hb', hc, q⟩ := hq
  cases rx
  cases ry
  obtain ⟨mA, J, _⟩ := ins_get I.hok ha
  obtain ⟨mB, J', _⟩ := ins_get I.hok hb'
  obtain ⟨od, J, _⟩ := J.look
  obtain ⟨od', J', _⟩ := J'.look
  obtain ⟨m, hF⟩ := I.fr
  show wpAny (model X.prog X.w) X.A (richCompare .Eq (.ref a) (.ref b)) (EP X pins σ Q) X.xe s
  refine PySem.W.cmp_K (op := .Eq) (tb := .ref C) hr.units0 hF I.ok.mod.kin J J'.type (by simp [PySem.W.notFirst]) hs hf (wpAny_mono (own_call F hb hx ⟨hr, rfl⟩ I hc) (fun v s' hv => ?_) fun _ _ e => e)
  obtain ⟨rfl, H', I', e⟩ := hv
  exact ⟨.bl c, H', I', rfl, by have := q H' e; rwa [Bool.false_bne] at this⟩
theorem op_neC (N : NeOf X.K C) (top : PySem.W.makesIn X.K C = true) (F : FnOk X.prog X.w X.K X.mg X.base CX n f fd ps (spEqC R)) (hs : PySem.W.findIn X.K (.ref C) "__eq__" = some (some (.ref f))) (hf : PySem.W.isFn X.K (.ref f) = true) (hb : Binds X.K fd ps []) (hx : Passes CX X E) (hr : Room (n + 1) X.A) : OpR X (compareOp .NotEq) (rOwn true C R) := by
  intro pins s σ H x y v u Q I rx ry hq
  obtain ⟨a, b, dx, dy, fs, gs, c, rfl, rfl, ha, hb', hc, q⟩ := hq
  cases rx
  cases ry
  obtain ⟨mA, J, _⟩ := ins_get I.hok ha
  obtain ⟨mB, J', _⟩ := ins_get I.hok hb'
  obtain ⟨od, J, _⟩ := J.look
  obtain ⟨od', J', _⟩ := J'.look
  have kin := I.kIn
  have Y := PySem.W.makes_of (M := model X.prog X.w) kin top
  have eqc : wpAny (model X.prog X.w) X.A.in1 (callSpecialIfBound? (.ref a) "__eq__" [.ref b]) (fun r s' => r = some (.bool c) ∧ ∃ H', Inv X pins σ H' s' ∧ Ext H H') X.xe s :=
    PySem.W.ifBound_K kin J hs hf (wpAny_mono (own_call F hb hx (Sub.in1 ⟨hr, rfl⟩) I hc) (fun v s' hv => ⟨by rw [hv.1], hv.2⟩) fun _ _ e => e)
  have back : ∀ s' H', Inv X pins σ H' s' → Ext H H' → EP X pins σ Q (.bool (!c)) s' := fun s' H' I' e => ⟨.bl (!c), H', I', rfl, by have := q H' e; rwa [Bool.true_bne] at this⟩
  have ent : wpAny (model X.prog X.w) X.A.in1 (Builtin.«object.__ne__» ⟨[.ref a, .ref b], []⟩) (fun fin s' => fin = .done (.ret (.bool (!c))) ∧ ∃ H', Inv X pins σ H' s' ∧ Ext H H') X.xe s := by
    unfold Builtin.«object.__ne__»
    repeat (first | with_reducible refine wpAny_cRoomFor hr.in1.units0 ?_ | (with_reducible refine wpAny_mono eqc (fun r s' hv => ?_) fun _ _ e => e) | wp_step)
    obtain ⟨rfl, hv⟩ := hv
    refine wpAny_bind ?_
    unfold truthy
    exact wpAny_pure (wpAny_pure ⟨rfl, hv⟩)
  have one : wpAny (model X.prog X.w) X.A (callSpecialIfBound? (.ref a) "__ne__" [.ref b]) (fun r s' => r = some (.bool (!c)) ∧ ∃ H', Inv X pins σ H' s' ∧ Ext H H') X.xe s := by
    simp only [callSpecialIfBound?, bindSpecialIfBound?]
    refine wpAny_holding (wpAny_bind (wpAny_bind (wpAny_bind (J.type.here ((PySem.W.looks_findIn kin N.at_).here ?_)))))
    refine wpAny_bind (wpAny_askSetting (wpAny_ite ?_))
    have fin : wpAny (model X.prog X.w) X.A (call (.builtin "object.__ne__") ([.ref a] ++ [.ref b]) >>= fun v => pure (some v)) (fun r s' => r = some (.bool (!c)) ∧ ∃ H', Inv X pins σ H' s' ∧ Ext H H') X.xe s := by
      refine wpAny_bind (wpAny_call (codeAny_call_builtin PySem.F.cmp_object.ne.plain PySem.F.cmpEntry_ne (PySem.W.check_slot PySem.F.cmpKind_ne PySem.F.cmpSplit_ne (J.type.andThen Y.top) (PySem.F.cmpArgs_ne _ _) (wpAny_mono ent (fun fin s' hv => ?_) fun _ _ e => e))))
      obtain ⟨rfl, hv⟩ := hv
      exact wpAny_pure ⟨rfl, hv⟩
    have bd := PySem.F.cmp_object.ne.bind
    split
    · rw [bd]
      exact wpAny_bind (wpAny_pure (wpAny_pure fin))
    · rw [bd]
      exact wpAny_tryCatch (wpAny_bind (wpAny_pure (wpAny_pure fin)))
  show wpAny (model X.prog X.w) X.A (richCompare .NotEq (.ref a) (.ref b)) (EP X pins σ Q) X.xe s
  unfold richCompare
  simp only [oneThing_ref]
  refine wpAny_holding (wpAny_bind (wpAny_cRoomFor hr.units0 ?_))
  refine wpAny_bind (J.type.here (wpAny_bind (J'.type.here ?_)))
  have e0 : (Value.ref C != Value.ref C) = false := by simp
  rw [e0]
  simp only [Bool.false_eq_true, if_false]
  refine wpAny_bind (wpAny_pure ?_)
  simp only [Bool.false_eq_true, if_false]
  have two : wpAny (model X.prog X.w) X.A (tryCompare (.ref a) (cmpInfo .NotEq).2.1 (.ref b)) (fun r s' => r = some (.bool (!c)) ∧ ∃ H', Inv X pins σ H' s' ∧ Ext H H') X.xe s := by
    unfold tryCompare
    refine wpAny_bind (wpAny_mono one (fun r s' hv => ?_) fun _ _ e => e)
    obtain ⟨rfl, hv⟩ := hv
    exact wpAny_pure ⟨rfl, hv⟩
  refine wpAny_bind (wpAny_mono two (fun r s' hv => ?_) fun _ _ e => e)
  obtain ⟨rfl, H', I', e⟩ := hv
  exact wpAny_pure (back s' H' I' e)
end
/-- two books beside one another -/
def RBkC (K : PySem.W.Frag) (C a b : Addr) (H : Hp) (c : Bool) : Prop := ∃ dx dy us vs ms rs ns qs, H a = some (.ins C dx us) ∧ H b = some (.ins C dy vs) ∧ FdAll K H us (bookF ms rs) ∧ FdAll K H vs (bookF ns qs) ∧ BkSh ms rs ∧ BkSh ns qs ∧
  c = (PyData.eqv (.tuple (ms.map mkD)) (.tuple (ns.map mkD)) && PyData.eqv (.tuple (rs.map rlD)) (.tuple (qs.map rlD)))
section
variable {K : PySem.W.Frag} {bx X0 : Addr → Prop} {H0 : Hp} {ρ : Rho} {Φ : Dat → Prop}
theorem w_ownB {neg : Bool} {Ca : Addr} {a b : TE} (h : W K bx X0 H0 a ρ fun x => W K bx X0 H0 b ρ fun y => ∃ ms rs ns qs, x = .fi Ca (bookF ms rs) ∧ y = .fi Ca (bookF ns qs) ∧ BkSh ms rs ∧ BkSh ns qs ∧
    Φ (.d (.bool (neg != (PyData.eqv (.tuple (ms.map mkD)) (.tuple (ns.map mkD)) && PyData.eqv (.tuple (rs.map rlD)) (.tuple (qs.map rlD))))))) : W K bx X0 H0 (tOp (rOwn neg Ca (RBkC K Ca)) a b) ρ Φ :=
  w_op (h.mono fun x q0 => W.mono q0 fun y ⟨ms, rs, ns, qs, e1, e2, s1, s2, q⟩ X H E v u d1 d2 Q k => by
    subst e1 e2
    obtain ⟨p, dx, us, rfl, h1, h2⟩ := da_ins d1 rfl
    obtain ⟨r, dy, vs, rfl, h3, h4⟩ := da_ins d2 rfl
    exact ⟨p, r, dx, dy, us, vs, _, rfl, rfl, h1, h3, ⟨dx, dy, us, vs, ms, rs, ns, qs, h1, h3, core_all h2, core_all h4, s1, s2, rfl⟩, fun H' ex => k _ _ H' (.of ex) (ok_d (.bl _)) q⟩)
/-- the same book -/
theorem w_ownSame {neg : Bool} {Ca : Addr} {a b : TE} (h : W K bx X0 H0 a ρ fun x => W K bx X0 H0 b ρ fun y => ∃ ms rs, x = .fi Ca (bookF ms rs) ∧ y = .fi Ca (bookF ms rs) ∧ BkSh ms rs ∧ Φ (.d (.bool (!neg)))) : W K bx X0 H0 (tOp (rOwn neg Ca (RBkC K Ca)) a b) ρ Φ :=
  w_ownB (h.mono fun x q0 => W.mono q0 fun y ⟨ms, rs, e1, e2, s1, q⟩ => ⟨ms, rs, ms, rs, e1, e2, s1, s1, by
    rw [eqv_self (mks_shaped s1.m), eqv_self (rls_shaped s1.r)]
    cases neg <;> exact q⟩)
end
end Say

set_option Elab.async false
set_option linter.all false
set_option maxRecDepth 100000
set_option maxHeartbeats 4000000
/-! going through what was handed in, item by item; rows handed in; prime premises -/
namespace Say
open PySem PySem.Spec PyProof.Rows L2
/-- each item formed, or the number of the first that has no form -/
def goE {α : Type} (f : PyData → Option α) : Nat → List PyData → Int ⊕ List α
  | _, [] => .inr []
  | i, d :: r => match f d with
    | none => .inl (i : Int)
    | some p => match goE f (i + 1) r with
      | .inl k => .inl k
      | .inr ps => .inr (p :: ps)
def withE {α : Type} (acc : List α) : Int ⊕ List α → Int ⊕ List α
  | .inl k => .inl k
  | .inr ps => .inr (acc ++ ps)
theorem withE_nil {α : Type} : ∀ s : Int ⊕ List α, withE [] s = s
  | .inl _ => rfl
  | .inr _ => rfl
theorem goE_none {α : Type} {f : PyData → Option α} {i : Nat} {d : PyData} {r : List PyData} (h : f d = none) : goE f i (d :: r) = .inl (i : Int) := by
  unfold goE
  rw [h]
theorem withE_some {α : Type} {f : PyData → Option α} {i : Nat} {d : PyData} {r : List PyData} {p : α} {acc : List α} (h : f d = some p) : withE acc (goE f i (d :: r)) = withE (acc ++ [p]) (goE f (i + 1) r) := by
  conv => lhs; unfold goE
  rw [h]
  cases goE f (i + 1) r with
  | inl k => rfl
  | inr ps =>
    show Sum.inr (acc ++ (p :: ps)) = Sum.inr (acc ++ [p] ++ ps)
    rw [List.append_assoc]
    rfl
theorem goE_map {α β : Type} {f : PyData → Option α} {g : β → PyData} {h : β → α} : ∀ {l : List β} {i : Nat}, (∀ b ∈ l, f (g b) = some (h b)) → goE f i (l.map g) = .inr (l.map h)
  | [], _, _ => rfl
  | b :: l, i, q => by
    unfold goE
    rw [List.map_cons]
    simp only
    rw [q b List.mem_cons_self, goE_map (l := l) (i := i + 1) fun c hc => q c (List.mem_cons_of_mem _ hc)]
    rfl
theorem goE_bad {α β : Type} {f : PyData → Option α} {g : β → PyData} {h : β → α} {d : PyData} {more : List PyData} (hd : f d = none) : ∀ {l : List β} {i : Nat}, (∀ b ∈ l, f (g b) = some (h b)) → goE f i (l.map g ++ d :: more) = .inl ((i + l.length : Nat) : Int)
  | [], i, _ => goE_none hd
  | b :: l, i, q => by
    show goE f i (g b :: (l.map g ++ d :: more)) = _
    unfold goE
    rw [q b List.mem_cons_self, goE_bad hd (l := l) (i := i + 1) fun c hc => q c (List.mem_cons_of_mem _ hc)]
    show Sum.inl _ = Sum.inl _
    rw [List.length_cons]
    congr 2
    omega
theorem goE_all {α : Type} {f : PyData → Option α} {q : α → Prop} (hq : ∀ d p, f d = some p → q p) : ∀ {ds : List PyData} {i : Nat} {ps : List α}, goE f i ds = .inr ps → ∀ p ∈ ps, q p
  | [], _, ps, h => by
    cases h
    intro p hp
    cases hp
  | d :: r, i, ps, h => by
    unfold goE at h
    cases e : f d with
    | none =>
      rw [e] at h
      cases h
    | some p =>
      rw [e] at h
      cases e2 : goE f (i + 1) r with
      | inl k =>
        rw [e2] at h
        cases h
      | inr qs =>
        rw [e2] at h
        cases h
        intro x hx
        rcases List.mem_cons.mp hx with rfl | hx
        · exact hq d _ e
        · exact goE_all hq e2 x hx
theorem goE_len {α : Type} {f : PyData → Option α} : ∀ {ds : List PyData} {i : Nat} {ps : List α}, goE f i ds = .inr ps → ps.length = ds.length
  | [], _, ps, h => by
    cases h
    rfl
  | d :: r, i, ps, h => by
    unfold goE at h
    cases e : f d with
    | none =>
      rw [e] at h
      cases h
    | some p =>
      rw [e] at h
      cases e2 : goE f (i + 1) r with
      | inl k =>
        rw [e2] at h
        cases h
      | inr qs =>
        rw [e2] at h
        cases h
        rw [List.length_cons, List.length_cons, goE_len e2]
/-- a row of so many places, as handed in -/
def rowI (n : Int) (d : PyData) : Option (List Int) := match itemsD d with
  | some ds => if (ds.all (fun x => belowB x 2) && decide ((ds.length : Int) = n)) = true then some (ds.filterMap intD) else none
  | none => none
theorem below_ints {k : Int} : ∀ {ds : List PyData}, ds.all (fun x => belowB x k) = true → ds = (ds.filterMap intD).map PyData.int
  | [], _ => rfl
  | d :: r, h => by
    rw [List.all_cons, Bool.and_eq_true] at h
    cases d with
    | int i =>
      have := below_ints (ds := r) h.2
      show PyData.int i :: r = PyData.int i :: (r.filterMap intD).map PyData.int
      rw [← this]
    | _ => cases h.1
theorem rowP_is {n : Int} (d : PyData) : rowP 2 true d n = match rowI n d with
    | none => .none
    | some r => rowD r := by
  unfold rowP rowF rowI
  cases e : itemsD d with
  | none => rfl
  | some ds =>
    have hs : seqB2 true d = true := by rw [seqB2_items, e]; rfl
    simp only [hs, Bool.true_and]
    by_cases c : ds.all (fun x => belowB x 2) = true
    · rw [c]
      show (if (ds.length : Int) = n then PyData.tuple ds else .none) = _
      by_cases c2 : (ds.length : Int) = n
      · rw [if_pos c2]
        have : decide ((ds.length : Int) = n) = true := decide_eq_true c2
        rw [this]
        show PyData.tuple ds = PyData.tuple ((ds.filterMap intD).map PyData.int)
        rw [← below_ints c]
      · rw [if_neg c2]
        have : decide ((ds.length : Int) = n) = false := decide_eq_false c2
        rw [this]
        rfl
    · have c' : ds.all (fun x => belowB x 2) = false := by simpa using c
      rw [c']
      rfl
theorem rowI_ok {n : Int} {d : PyData} {r : List Int} (h : rowI n d = some r) : (r.length : Int) = n ∧ ∀ x ∈ r, x = 0 ∨ x = 1 := by
  unfold rowI at h
  cases e : itemsD d with
  | none =>
    rw [e] at h
    cases h
  | some ds =>
    rw [e] at h
    replace h : (if (ds.all (fun x => belowB x 2) && decide ((ds.length : Int) = n)) = true then some (ds.filterMap intD) else none) = some r := h
    split at h
    · rename_i c
      cases h
      rw [Bool.and_eq_true] at c
      have l := congrArg List.length (below_ints c.1)
      rw [List.length_map] at l
      refine ⟨by rw [← l]; exact of_decide_eq_true c.2, fun x hx => ?_⟩
      obtain ⟨y, hy, ey⟩ := List.mem_filterMap.mp hx
      have := List.all_eq_true.mp c.1 y hy
      cases y with
      | int i =>
        cases ey
        have h2 : (decide (0 ≤ x) && decide (x < 2)) = true := this
        rw [Bool.and_eq_true, decide_eq_true_eq, decide_eq_true_eq] at h2
        omega
      | _ => cases ey
    · cases h
theorem rowI_row {n : Int} {r : List Int} (hl : (r.length : Int) = n) (h : ∀ x ∈ r, x = 0 ∨ x = 1) : rowI n (rowD r) = some r ∧ rowI n (.list (r.map PyData.int)) = some r := by
  have a : (r.map PyData.int).all (fun x => belowB x 2) = true := by
    rw [List.all_map, List.all_eq_true]
    intro x hx
    rcases h x hx with rfl | rfl <;> rfl
  have b : (r.map PyData.int).filterMap intD = r := by
    induction r with
    | nil => rfl
    | cons x l ih =>
      show x :: (l.map PyData.int).filterMap intD = x :: l
      have : (l.map PyData.int).all (fun x => belowB x 2) = true := by
        rw [List.map_cons, List.all_cons, Bool.and_eq_true] at a
        exact a.2
      congr 1
      clear ih a this hl h
      induction l with
      | nil => rfl
      | cons y l ih => show y :: _ = y :: _; congr 1
  have c : decide (((r.map PyData.int).length : Int) = n) = true := decide_eq_true (by rw [List.length_map]; exact hl)
  have f : (if ((r.map PyData.int).all (fun x => belowB x 2) && decide (((r.map PyData.int).length : Int) = n)) = true then some ((r.map PyData.int).filterMap intD) else none) = some r := by
    rw [a, c, b]
    rfl
  exact ⟨f, f⟩
/-! list + list, whatever lists they are -/
def rCatS (K : PySem.W.Frag) : R2 := fun x y H Q => ∃ l b xs zs, x = .ref l ∧ y = .ref b ∧ SqL K H l xs ∧ SqL K H b zs ∧ xs.length + zs.length ≤ sizeLine ∧ ∀ p, H p = none → Q (.ref p) (upd H p (.lst (xs ++ zs)))
theorem op_catS {X : Cx} : OpR X (binaryOp .Add) (rCatS X.K) := by
  intro pins s σ H x y v u Q I rx ry h
  obtain ⟨l, b, xs, zs, rfl, rfl, hH, hB, hz, q⟩ := h
  cases rx
  cases ry
  obtain ⟨its, r, ⟨⟨cls, dd, data, sl⟩, n, ho, hc, hdn, hd⟩, hl⟩ := I.list hH
  obtain ⟨its2, r2, ⟨⟨cls2, dd2, data2, sl2⟩, n2, ho2, hc2, hdn2, hd2⟩, hl2⟩ := I.list hB
  simp only at hc hd hc2 hd2
  subst hc hd hc2 hd2
  have e : its.toArray ++ its2.toArray = (its ++ its2).toArray := by simp
  refine concat_meets ⟨_, ho, rfl⟩ ⟨_, ho2, rfl⟩ noFill_list_add seq_list_add PySem.F.slot_list_add PySem.F.entry_list_add (PySem.F.args_list_add_2 _ _) (list_addW l b its.toArray its2.toArray n n2 dd dd2 sl sl2 (by rw [List.size_toArray, List.size_toArray, ← r.length, ← r2.length]; exact hz)) ⟨ho, ho2, ?_⟩
  rw [e]
  exact ⟨.ref _, _, I.lnew (t' := s.toks) (r.append r2) (by rw [List.length_append]; omega), rfl, q _ I.fresh⟩
theorem catsK {X : Cx} (K : PySem.W.Frag) (h : X.K = K) : OpR X (binaryOp .Add) (rCatS K) := h ▸ op_catS
section
variable {K : PySem.W.Frag} {bx X0 : Addr → Prop} {H0 : Hp} {ρ : Rho}
theorem wf_catS {a b : TE} {Φ : List PyData → Prop} (h : W K bx X0 H0 a ρ fun x => W K bx X0 H0 b ρ fun y => ∃ xs ys, lst? x = some xs ∧ lst? y = some ys ∧ xs.length + ys.length ≤ 100000 ∧ Φ (xs ++ ys)) : WF K bx X0 H0 (tOp (rCatS K) a b) ρ Φ := fun X H σ e Q k =>
  h X H σ e _ fun v x H1 f1 d1 q1 => q1 X H1 σ (e.go f1) _ fun u y H2 f2 d2 ⟨xs, ys, e1, e2, l, q⟩ => by
    obtain ⟨p, vs, rfl, h1, h2⟩ := da_lst (da_fr f2 e.sub d1) e1
    obtain ⟨p2, us, rfl, h3, h4⟩ := da_lst d2 e2
    have big : 100000 ≤ sizeLine := by decide
    refine ⟨p, p2, vs, us, rfl, rfl, h1, h3, by rw [dpAll_len h2, dpAll_len h4]; omega, fun t n => k t _ _ _ ((f1.trans f2).new n) ((f1.trans f2).free n) upd_same ?_ q⟩
    rw [core_upd (.inr rfl)]
    refine dpAll_mono (fun b o z => ?_) _ _ (dpAll_app h2 h4)
    obtain ⟨n1, z1, z2⟩ := core_some z
    exact core_of (fun g => g.elim n1 fun g => by rw [g, n] at z1; cases z1) z1 z2
end
end Say

set_option Elab.async false
set_option linter.all false
set_option pp.maxSteps 1500
set_option pp.deepTerms false
set_option maxRecDepth 100000
set_option maxHeartbeats 8000000
namespace K03
open PySem PySem.Spec PyProof.Rows L2 Say
/-! ### prime premises: what they wake -/
theorem filt_lt {α : Type} {p q : α → Bool} : ∀ {S : List α}, (∀ x ∈ S, p x = true → q x = true) → (∃ x ∈ S, q x = true ∧ p x = false) → (S.filter p).length < (S.filter q).length
  | [], _, ⟨x, h, _⟩ => by cases h
  | a :: S, h, ⟨x, hx, q1, p1⟩ => by
    have le : (S.filter p).length ≤ (S.filter q).length := by
      clear hx q1 p1
      induction S with
      | nil => exact Nat.le_refl _
      | cons b S ih =>
        have := ih fun x hx => h x (by
          rcases List.mem_cons.mp hx with rfl | hx
          · exact List.mem_cons_self
          · exact List.mem_cons_of_mem _ (List.mem_cons_of_mem _ hx))
        rw [List.filter_cons, List.filter_cons]
        cases c : p b with
        | false =>
          simp only [Bool.false_eq_true, if_false]
          split
          · exact Nat.le_succ_of_le this
          · exact this
        | true =>
          have q2 := h b (List.mem_cons_of_mem _ List.mem_cons_self) c
          rw [q2]
          simp only [if_true]
          exact Nat.succ_le_succ this
    rw [List.filter_cons, List.filter_cons]
    rcases List.mem_cons.mp hx with e | hx
    · rw [← e, q1, p1]
      simp
      omega
    · have ih := filt_lt (S := S) (fun x hx => h x (List.mem_cons_of_mem _ hx)) ⟨x, hx, q1, p1⟩
      cases c : p a with
      | false =>
        simp only [Bool.false_eq_true, if_false]
        split
        · exact Nat.lt_succ_of_lt ih
        · exact ih
      | true =>
        have q2 := h a List.mem_cons_self c
        rw [q2]
        simp only [if_true]
        exact Nat.succ_lt_succ ih
theorem within_refl (p : Pm) : withinB p p = true := by
  unfold withinB
  rw [Bool.and_eq_true, List.all_eq_true, List.all_eq_true]
  exact ⟨fun x hx => decide_eq_true hx, fun x hx => decide_eq_true hx⟩
theorem within_iff {p q : Pm} : withinB p q = true ↔ (∀ x ∈ p.1, x ∈ q.1) ∧ ∀ x ∈ p.2, x ∈ q.2 := by
  unfold withinB
  rw [Bool.and_eq_true, List.all_eq_true, List.all_eq_true]
  exact ⟨fun h => ⟨fun x hx => of_decide_eq_true (h.1 x hx), fun x hx => of_decide_eq_true (h.2 x hx)⟩, fun h => ⟨fun x hx => decide_eq_true (h.1 x hx), fun x hx => decide_eq_true (h.2 x hx)⟩⟩
theorem within_trans {p q r : Pm} (h : withinB p q = true) (h2 : withinB q r = true) : withinB p r = true := by
  rw [within_iff] at *
  exact ⟨fun x hx => h2.1 x (h.1 x hx), fun x hx => h2.2 x (h.2 x hx)⟩
theorem within_hold {p q : Pm} {r : List Int} (h : withinB p q = true) (hp : holdB r p = true) : holdB r q = true := by
  rw [within_iff] at h
  unfold holdB at *
  rw [Bool.or_eq_true, decide_eq_true_eq, decide_eq_true_eq] at *
  rcases hp with hp | hp
  · obtain ⟨x, hx, e⟩ := List.mem_map.mp hp
    exact .inl (List.mem_map.mpr ⟨x, h.1 x hx, e⟩)
  · obtain ⟨x, hx, e⟩ := List.mem_map.mp hp
    exact .inr (List.mem_map.mpr ⟨x, h.2 x hx, e⟩)
/-- the sheet that fails at this row alone -/
def fullS (r : List Int) : Pm := (((List.range r.length).filter fun i => decide (r.getD i 0 = 1)).map fun i : Nat => (i : Int) + 1, ((List.range r.length).filter fun i => decide (r.getD i 0 = 0)).map fun i : Nat => (i : Int) + 1)
def factsB (n : Nat) : Bool := (rowsL n).all (fun r => decide (fullS r ∈ plainL n) && (!holdB r (fullS r) && (rowsL n).all fun q => decide (q = r) || holdB q (fullS r))) && (plainL n).all fun p => (plainL n).all fun q => !(withinB p q && withinB q p) || decide (p = q)
theorem facts_ok {n : Nat} (h : n ≤ 3) : factsB n = true := by
  have : n = 0 ∨ n = 1 ∨ n = 2 ∨ n = 3 := by omega
  rcases this with rfl | rfl | rfl | rfl <;> decide +kernel
theorem full_facts {n : Nat} (h : n ≤ 3) {r : List Int} (hr : r ∈ rowsL n) : fullS r ∈ plainL n ∧ holdB r (fullS r) = false ∧ ∀ q ∈ rowsL n, q ≠ r → holdB q (fullS r) = true := by
  have := facts_ok h
  unfold factsB at this
  rw [Bool.and_eq_true, List.all_eq_true] at this
  have := this.1 r hr
  rw [Bool.and_eq_true, Bool.and_eq_true, List.all_eq_true, decide_eq_true_eq, Bool.not_eq_true'] at this
  refine ⟨this.1, this.2.1, fun q hq ne => ?_⟩
  have := this.2.2 q hq
  rw [Bool.or_eq_true, decide_eq_true_eq] at this
  exact this.resolve_left ne
theorem plain_anti {n : Nat} (h : n ≤ 3) {p q : Pm} (hp : p ∈ plainL n) (hq : q ∈ plainL n) (a : withinB p q = true) (b : withinB q p = true) : p = q := by
  have := facts_ok h
  unfold factsB at this
  rw [Bool.and_eq_true, List.all_eq_true, List.all_eq_true] at this
  have := List.all_eq_true.mp (this.2 p hp) q hq
  rw [a, b] at this
  exact of_decide_eq_true this
theorem mem_leastL {S : List Pm} {e : Pm} : e ∈ leastL S ↔ e ∈ S ∧ ∀ o ∈ S, withinB o e = true → o = e := by
  unfold leastL
  rw [List.mem_filter, Bool.not_eq_true', List.any_eq_false]
  refine and_congr_right fun _ => ⟨fun h o ho w => ?_, fun h o ho c => ?_⟩
  · have := h o ho
    rw [w, Bool.and_true, decide_eq_true_eq] at this
    exact Decidable.byContradiction this
  · rw [Bool.and_eq_true, decide_eq_true_eq] at c
    exact c.1 (h o ho c.2)
theorem least_in {n : Nat} (h : n ≤ 3) {S : List Pm} (hS : ∀ p ∈ S, p ∈ plainL n) : ∀ (m : Nat) (p : Pm), p ∈ S → (S.filter fun o => withinB o p).length ≤ m → ∃ q ∈ leastL S, withinB q p = true
  | 0, p, hp, l => by
    have : p ∈ S.filter fun o => withinB o p := List.mem_filter.mpr ⟨hp, within_refl p⟩
    rw [List.length_eq_zero_iff.mp (Nat.le_zero.mp l)] at this
    cases this
  | m + 1, p, hp, l => by
    by_cases c : p ∈ leastL S
    · exact ⟨p, c, within_refl p⟩
    · rw [mem_leastL] at c
      have : ∃ o ∈ S, withinB o p = true ∧ o ≠ p := Classical.byContradiction fun z => c ⟨hp, fun o ho w => Classical.byContradiction fun ne => z ⟨o, ho, w, ne⟩⟩
      obtain ⟨o, ho, w, ne⟩ := this
      have lt : (S.filter fun x => withinB x o).length < (S.filter fun x => withinB x p).length := by
        refine filt_lt (fun x _ hx => within_trans hx w) ⟨p, hp, within_refl p, ?_⟩
        cases e : withinB p o with
        | false => rfl
        | true => exact absurd (plain_anti h (hS o ho) (hS p hp) w e) ne
      obtain ⟨q, hq, wq⟩ := least_in h hS m o ho (by omega)
      exact ⟨q, hq, within_trans wq w⟩
theorem mem_primeL {n : Nat} {rows : List (List Int)} {e : Pm} : e ∈ primeL n rows ↔ e ∈ leastL ((plainL n).filter fun e => rows.all fun r => holdB r e) := mem_sortP
def wakeN (n : Nat) (ps : List Pm) : List (List Int) := (rowsL n).filter fun r => ps.all (holdB r)
/-- the rows that the prime premises of some rows wake are these rows -/
theorem wake_prime {n : Nat} (h : n ≤ 3) (P : List Int → Bool) : ((rowsL n).filter fun r => (primeL n ((rowsL n).filter P)).all (holdB r)) = (rowsL n).filter P := by
  refine List.filter_congr fun r hr => ?_
  have hS : ∀ p ∈ (plainL n).filter (fun e => ((rowsL n).filter P).all fun r => holdB r e), p ∈ plainL n := fun p hp => (List.mem_filter.mp hp).1
  cases c : P r with
  | true =>
    rw [List.all_eq_true]
    intro p hp
    rw [mem_primeL, mem_leastL] at hp
    exact List.all_eq_true.mp (List.mem_filter.mp hp.1).2 r (List.mem_filter.mpr ⟨hr, c⟩)
  | false =>
    obtain ⟨f1, f2, f3⟩ := full_facts h hr
    have inS : fullS r ∈ (plainL n).filter (fun e => ((rowsL n).filter P).all fun r => holdB r e) := by
      refine List.mem_filter.mpr ⟨f1, List.all_eq_true.mpr fun q hq => ?_⟩
      obtain ⟨q1, q2⟩ := List.mem_filter.mp hq
      refine f3 q q1 fun e => ?_
      rw [e, c] at q2
      cases q2
    obtain ⟨q, hq, w⟩ := least_in h hS _ _ inS (Nat.le_refl _)
    have : holdB r q = false := by
      cases e : holdB r q with
      | false => rfl
      | true => rw [within_hold w e] at f2; cases f2
    rw [Bool.eq_false_iff]
    intro z
    have z2 := List.all_eq_true.mp z q (mem_primeL.mpr hq)
    rw [this] at z2
    cases z2
end K03

set_option Elab.async false
set_option linter.all false
set_option pp.maxSteps 1500
set_option pp.deepTerms false
set_option maxRecDepth 100000
set_option maxHeartbeats 8000000
namespace K03
open PySem PySem.Spec PyProof.Rows L2 Say
section
variable {P : Program} {w : World} {K : PySem.W.Frag} {mg : Str → Option Value} {base : Heap}
def f_need_number (K : PySem.W.Frag) : FnA (List (Str × Nat) × List Rl × Nat) := ⟨fun a => [.fi (He.ga K "Book") (bookF a.1 a.2.1), .d (.int (a.2.2 : Nat))], fun _ a => a.2.2 < a.2.1.length, fun a x => ∃ r, a.2.1[a.2.2]? = some r ∧ x = .d (rlD r), fun _ _ => False⟩
def N_need_number : List Str := ["book", "number"]
theorem sc_need_number : FnScope N_need_number ["book", "number"] (defScope (top 45)) := ⟨rfl, rfl, rfl, by decide +kernel, rfl, by decide +kernel, by decide +kernel⟩
theorem fk_need_number (T : Tx K mg) {fd : FuncData} (F : FnP K "need_number" 45 [] (He.ga K "need_number") fd) : FnOk P w K mg base (L2.CX P w) 4 (He.ga K "need_number") fd ["book", "number"] (spA K (f_need_number K)) := by
  obtain ⟨fdI_NoRule, GI_NoRule, bI_NoRule⟩ := ini_NoRule (P := P) (w := w) (base := base) T
  refine fnA_ok F sc_need_number (fun _ => rfl) (fun cdv A ou s H E hr => ⟨_, (pss_cons (ps_if (pt_not (pt_val (pe_gd (gk_is_number_below T) (hr.mono (by decide)) rfl T.g_is_number_below pass0 (pa_cons (pv 1) (pa_cons (pe_callB (show CallR _ _ (rLenQ K) from call_len_seq) (by rfl) T.b_len PySem.boot_len (pa_cons (pe_fld (pe_gd (E := E) (gk_need_book T) (hr.mono (by decide)) rfl T.g_need_book (passes_call (takes_of rfl rfl rfl rfl) fun _ _ _ _ z => z) (pa_cons (pv 0) pa_nil)) rfl) pa_nil)) pa_nil)))))
      (pss_one (ps_raise rfl (takes_of rfl rfl rfl rfl) (pmk_e T.E_NoRule T.I_NoRule GI_NoRule (hr.mono (by decide)) bI_NoRule .nil pass0 T.c_NoRule (pa_cons (pv 1) pa_nil))))
      pss_nil)
      (pss_one (ps_ret (pe_ix ix_sq (pe_fld (pv 0) rfl) (pv 1) (fun _ _ => rfl))))), ?_⟩)
  rintro a bx X sb pre hE
  show WS K bx X H _ [some _, some _] _ _ _ _
  obtain ⟨ms, rs, i⟩ := a
  replace pre : i < rs.length := pre
  have hr2 : rs[i]? = some rs[i] := List.getElem?_eq_getElem pre
  refine ws_seq (ws_if (wt_not (wt_b (w_callF (wa_cons (w_var rfl (wa_cons (w_lenQ (wa_cons (w_fld T.k_Book T.a_Book_rules (w_call (wa_cons (w_var rfl (wa_nil ⟨.bk ms rs, rfl, rfl, trivial, ?_, fun e he => absurd rfl (he.1 ms rs)⟩))))))))))))))
  rintro x ⟨_, rfl⟩
  refine ⟨bookF ms rs, .d (.tuple (rs.map rlD)), rfl, rfl, wa_nil ⟨_, rs.map rlD, rfl, rfl, wa_nil ⟨(.int (i : Nat), ((rs.map rlD).length : Nat)), rfl, rfl, trivial, _, rfl, fun c => ?_, fun _ => ws_next ?_⟩⟩⟩
  · exfalso
    have c' : (!(decide ((0 : Int) ≤ (i : Nat)) && decide (((i : Nat) : Int) < ((rs.map rlD).length : Nat)))) = true := c
    rw [List.length_map, decide_eq_true (by omega), decide_eq_true (by omega)] at c'
    cases c'
  · refine ws_ret sb (w_ix (w_fld T.k_Book T.a_Book_rules (w_var rfl ⟨_, _, rfl, rfl, w_var rfl ⟨rs.map rlD, (i : Nat), rlD rs[i], rfl, rfl, atI_nat (by rw [List.getElem?_map, hr2]; rfl), rfl, _, hr2, rfl⟩⟩)))
theorem gk_need_number (T : Tx K mg) : Gd P w K mg base (L2.CX P w) 4 "need_number" ["book", "number"] [] (f_need_number K) := by
  obtain ⟨fd, F⟩ := T.F_need_number
  exact ⟨fd, [], fk_need_number T F, ⟨.nil, F.bindsN fun _ _ _ _ _ _ us hl => match us, hl with | [_, _], _ => rfl⟩, F.kp⟩
def f_awake_rows (K : PySem.W.Frag) : FnA (List (Str × Nat) × List Rl × Nat) := ⟨fun a => [.fi (He.ga K "Book") (bookF a.1 a.2.1), .d (.int (a.2.2 : Nat))], fun _ a => a.2.2 < a.2.1.length ∧ BkOk a.1 a.2.1, fun a x => ∃ r n, a.2.1[a.2.2]? = some r ∧ (r.1, n) ∈ a.1 ∧ n ≤ 3 ∧ x = .d (.tuple (((rowsL n).filter fun q => r.2.2.all (holdB q)).map rowD)), fun _ _ => False⟩
def N_awake_rows : List Str := ["book", "number", "rule"]
theorem sc_awake_rows : FnScope N_awake_rows ["book", "number"] (defScope (top 46)) := ⟨rfl, rfl, rfl, by decide +kernel, rfl, by decide +kernel, by decide +kernel⟩
theorem fk_awake_rows (T : Tx K mg) {fd : FuncData} (F : FnP K "awake_rows" 46 [] (He.ga K "awake_rows") fd) : FnOk P w K mg base (L2.CX P w) 5 (He.ga K "awake_rows") fd ["book", "number"] (spA K (f_awake_rows K)) := by
  refine fnA_ok F sc_awake_rows (fun _ => rfl) (fun cdv A ou s H E hr => ⟨_, (pss_cons (ps_set (i := 2) sc_awake_rows.nd rfl (Or.inl rfl) (pe_gd (E := E) (gk_need_number T) (hr.mono (by decide)) rfl T.g_need_number (passes_call (takes_of rfl rfl rfl rfl) fun _ _ _ _ z => z) (pa_cons (pv 0) (pa_cons (pv 1) pa_nil))))
      (pss_one (ps_ret (pe_gd (gk_waking_rows T) (hr.mono (by decide)) rfl T.g_waking_rows pass0 (pa_cons (pe_ix ix_sq (pv 2) pe_int (fun _ _ => rfl)) (pa_cons (pe_gm (E := E) (gm_Book_maker_places T) (hr.mono (by decide)) T.k_Book T.h_Book_maker_places (pv 0) (passes_call (takes_of rfl rfl rfl rfl) fun _ _ _ _ z => z) (pa_cons (pe_ix ix_sq (pv 2) pe_int (fun _ _ => rfl)) pa_nil)) pa_nil)))))), ?_⟩)
  rintro a bx X sb pre hE
  show WS K bx X H _ [some _, some _, none] _ _ _ _
  obtain ⟨ms, rs, i⟩ := a
  obtain ⟨pre, ok⟩ := pre
  replace ok : BkOk ms rs := ok
  replace pre : i < rs.length := pre
  refine ws_seq (ws_asg (w_call (wa_cons (w_var rfl (wa_cons (w_var rfl (wa_nil ⟨(ms, rs, i), rfl, rfl, pre, ?_, fun e he => False.elim he⟩)))))))
  rintro x ⟨r, hr2, rfl⟩
  refine ⟨rfl, ?_⟩
  obtain ⟨n, h1, h2, h3, h4⟩ := ok.rl r (List.mem_of_getElem? hr2)
  refine ws_ret sb (w_callF (wa_cons (w_ix (w_var rfl (w_int ⟨[.str r.1, .str r.2.1, .tuple (r.2.2.map pmD)], 2, .tuple (r.2.2.map pmD), rfl, rfl, rfl, ?_⟩)))))
  refine wa_cons (w_meth (w_var rfl ⟨_, rfl, rfl, rfl, wa_cons (w_ix (w_var rfl (w_int ⟨[.str r.1, .str r.2.1, .tuple (r.2.2.map pmD)], 0, .str r.1, rfl, rfl, rfl, wa_nil ⟨(ms, rs, r.1, n), rfl, rfl, ⟨ok.nd, h1⟩, ?_, fun e he => False.elim he⟩⟩)))⟩))
  rintro y rfl
  exact wa_nil ⟨(r.2.2, n, false), rfl, rfl, ⟨h3, by show r.2.2.length ≤ 200; omega, h2⟩, rfl, r, n, hr2, h1, h2, rfl⟩
theorem gk_awake_rows (T : Tx K mg) : Gd P w K mg base (L2.CX P w) 5 "awake_rows" ["book", "number"] [] (f_awake_rows K) := by
  obtain ⟨fd, F⟩ := T.F_awake_rows
  exact ⟨fd, [], fk_awake_rows T F, ⟨.nil, F.bindsN fun _ _ _ _ _ _ us hl => match us, hl with | [_, _], _ => rfl⟩, F.kp⟩
noncomputable def f_rows_premises (K : PySem.W.Frag) : FnA (Nat × PyData) := ⟨fun a => [.d (.int (a.1 : Nat)), .d a.2], fun _ a => a.1 ≤ 3 ∧ ∀ ds, itemsD a.2 = some ds → ds.length ≤ 1000 ∧ ∀ d ∈ ds, ∀ es, itemsD d = some es → es.length ≤ 1000,
  fun a x => ∃ ds rs, itemsD a.2 = some ds ∧ goE (rowI (a.1 : Nat)) 0 ds = .inr rs ∧ x = .d (.tuple ((primeL a.1 rs).map pmD)),
  fun a e => (itemsD a.2 = none ∧ e = ⟨He.ga K "InvalidRow", [("at", .int (-1))]⟩) ∨ ∃ ds k, itemsD a.2 = some ds ∧ goE (rowI (a.1 : Nat)) 0 ds = .inl k ∧ e = ⟨He.ga K "InvalidRow", [("at", .int k)]⟩⟩
def N_rows_premises : List Str := ["places", "rows", "formed", "at", "value", "row"]
theorem sc_rows_premises : FnScope N_rows_premises ["places", "rows"] (defScope (top 50)) := ⟨rfl, rfl, rfl, by decide +kernel, rfl, by decide +kernel, by decide +kernel⟩
theorem fk_rows_premises (T : Tx K mg) {fd : FuncData} (F : FnP K "rows_premises" 50 [] (He.ga K "rows_premises") fd) : FnOk P w K mg base (L2.CX P w) 5 (He.ga K "rows_premises") fd ["places", "rows"] (spA K (f_rows_premises K)) := by
  obtain ⟨fdI_InvalidRow, GI_InvalidRow, bI_InvalidRow⟩ := ini_InvalidRow (P := P) (w := w) (base := base) T
  refine fnA_ok F sc_rows_premises (fun _ => rfl) (fun cdv A ou s H E hr => ⟨_, (pss_cons (ps_expr (pe_gd (E := E) (gk_need_places T) (hr.mono (by decide)) rfl T.g_need_places (passes_call (takes_of rfl rfl rfl rfl) fun _ _ _ _ z => z) (pa_cons (pv 0) pa_nil)))
      (pss_cons (ps_if (pt_not (pt_val (pe_gd (gk_is_sequence T) (hr.mono (by decide)) rfl T.g_is_sequence pass0 (pa_cons (pv 1) pa_nil))))
      (pss_one (ps_raise rfl (takes_of rfl rfl rfl rfl) (pmk_e T.E_InvalidRow T.I_InvalidRow GI_InvalidRow (hr.mono (by decide)) bI_InvalidRow .nil pass0 T.c_InvalidRow (pa_cons (pe_un un_neg pe_int) pa_nil))))
      pss_nil)
      (pss_cons (ps_set (i := 2) sc_rows_premises.nd rfl (Or.inl rfl) (pe_lst pa_nil))
      (pss_cons (ps_for (passes_of rfl) rfl (pi_enumSq (by rfl) T.b_enumerate (pa_cons (pv 1) pa_nil)) (pg_tup (by rfl) (pgs_cons (pg_name (i := 3) sc_rows_premises.nd rfl (Or.inl rfl)) (pgs_cons (pg_name (i := 4) sc_rows_premises.nd rfl (Or.inl rfl)) pgs_nil)))
      (pss_cons (ps_set (i := 5) sc_rows_premises.nd rfl (Or.inl rfl) (pe_gd (gk_row_of_places T) (hr.mono (by decide)) rfl T.g_row_of_places pass0 (pa_cons (pv 4) (pa_cons (pv 0) pa_nil))))
      (pss_cons (ps_if (pt_cmpR op_isN (pv 5) pe_non (nomark _))
      (pss_one (ps_raise rfl (takes_of rfl rfl rfl rfl) (pmk_e T.E_InvalidRow T.I_InvalidRow GI_InvalidRow (hr.mono (by decide)) bI_InvalidRow .nil pass0 T.c_InvalidRow (pa_cons (pv 3) pa_nil))))
      pss_nil)
      (pss_one (ps_expr (pe_bm PySem.F.plainAttrs_list PySem.F.slot_list_append PySem.F.type_list_append mt_append (pv 2) (pa_cons (pv 5) pa_nil)))))))
      (pss_one (ps_ret (pe_gd (gk_prime_of_rows T) (hr.mono (by decide)) rfl T.g__prime_of_rows pass0 (pa_cons (pv 0) (pa_cons (pv 2) pa_nil))))))))), ?_⟩)
  rintro a bx X sb pre hE
  show WS K bx X H _ [some _, some _, none, none, none, none] _ _ _ _
  obtain ⟨n, d⟩ := a
  obtain ⟨n3, fw⟩ := pre
  replace n3 : n ≤ 3 := n3
  replace fw : ∀ ds, itemsD d = some ds → ds.length ≤ 1000 ∧ ∀ d ∈ ds, ∀ es, itemsD d = some es → es.length ≤ 1000 := fw
  have bn : belowB (.int (n : Nat)) 4 = true := by
    show (decide ((0 : Int) ≤ (n : Nat)) && decide (((n : Nat) : Int) < 4)) = true
    rw [decide_eq_true (by omega), decide_eq_true (by omega)]
    rfl
  refine ws_seq (ws_drop (w_call (wa_cons (w_var rfl (wa_nil ⟨.int (n : Nat), rfl, rfl, trivial, fun x hx => ?_, fun e he => ?_⟩)))))
  rotate_left
  · exfalso
    have := he.1
    rw [bn] at this
    cases this
  cases hds : itemsD d with
  | none =>
    refine ws_seq (ws_if (wt_not (wt_b (w_callF (wa_cons (w_var rfl (wa_nil ⟨(d, true), rfl, rfl, trivial, _, rfl, fun c => ws_raise (w_neg (w_int ⟨1, rfl, _, rfl, hE _ (.inl ⟨hds, rfl⟩)⟩)), fun c => ?_⟩)))))))
    exfalso
    rw [seqB2_items, hds] at c
    cases c
  | some ds =>
    obtain ⟨d200, fw⟩ := fw ds hds
    refine ws_seq (ws_if (wt_not (wt_b (w_callF (wa_cons (w_var rfl (wa_nil ⟨(d, true), rfl, rfl, trivial, _, rfl, fun c => ?_, fun c => ws_next ?_⟩)))))))
    · exfalso
      rw [seqB2_items, hds] at c
      cases c
    refine ws_seq (ws_own (wf_lst (wa_nil ⟨[], rfl, lek rfl, fun D hD => ?_⟩)))
    refine ws_forS [3, 4] [3, 4, 5] (wi_en (wa_cons (w_var rfl (wa_nil ⟨_, d, ds, rfl, rfl, seq_items.trans hds, fun i ρ' => ∃ acc : List (List Int), ρ' = [some (.d (.int (n : Nat))), some (.d d), some (.o D (acc.map rowD)), none, none, none] ∧ acc.length = i ∧ withE acc (goE (rowI (n : Nat)) i (ds.drop i)) = goE (rowI (n : Nat)) 0 ds, ⟨[], rfl, rfl, withE_nil _⟩, ?_, ?_⟩))))
    · rintro i z ρ' hz ⟨acc, rfl, hlen, hN⟩
      rw [List.getElem?_mapIdx] at hz
      obtain ⟨y, hy, rfl⟩ := Option.map_eq_some_iff.mp hz
      have il : i < ds.length := (List.getElem?_eq_some_iff.mp hy).1
      have edrop : ds.drop i = y :: ds.drop (i + 1) := by
        rw [List.drop_eq_getElem_cons il]
        congr 1
        rw [List.getElem?_eq_getElem il] at hy
        exact Option.some.inj hy
      rw [edrop] at hN
      have fy := fw y (List.mem_of_getElem? hy)
      refine wg_tup rfl rfl (wgs_cons (wg_name (by decide) (wgs_cons (wg_name (by decide) (wgs_nil ?_)))))
      refine ws_seq (ws_asg (w_callF (wa_cons (w_var rfl (wa_cons (w_var rfl (wa_nil ⟨(y, (n : Nat), 2, true), rfl, rfl, fy, rfl, ?_⟩)))))))
      rw [rowP_is]
      cases e : rowI (n : Nat) y with
      | none =>
        refine ws_seq (ws_if (wt_test (w_isN (w_var rfl (w_non ⟨true, rfl, rfl, _, rfl, fun _ => ws_raise (w_var rfl ⟨_, rfl, hE _ (.inr ⟨ds, _, hds, ?_, rfl⟩)⟩), (fun c => nomatch c)⟩)))))
        rw [← hN, goE_none e]
        rfl
      | some r =>
        refine ws_seq (ws_if (wt_test (w_isN (w_var rfl (w_non ⟨false, rfl, rfl, _, rfl, (fun c => nomatch c), fun _ => ws_next ?_⟩)))))
        refine ws_append rfl (only1 rfl) (by rw [List.length_map]; omega) (wa_cons (w_var rfl (wa_nil ⟨_, rowD r, rfl, rfl, acc ++ [r], ?_, by rw [List.length_append, hlen]; rfl, ?_⟩)))
        · rw [List.map_append]
          rfl
        · rw [← hN, withE_some e]
    · rintro ρ' ⟨acc, rfl, hlen, hN⟩
      rw [List.length_mapIdx, List.drop_length] at hN
      rw [List.length_mapIdx] at hlen
      have hg : goE (rowI (n : Nat)) 0 ds = .inr acc := by
        rw [← hN]
        show Sum.inr (acc ++ []) = Sum.inr acc
        rw [List.append_nil]
      refine ws_frz (i := 2) rfl (only1 rfl) (ws_ret sb (w_callF (wa_cons (w_var rfl (wa_cons (w_var rfl (wa_nil ⟨(n, acc, true), rfl, rfl, ⟨n3, fun r hr => ?_, by show acc.length ≤ 1000; omega⟩, rfl, ds, acc, hds, hg, rfl⟩)))))))
      have := (goE_all (q := fun r => (r.length : Int) = (n : Nat)) (fun d p e => (rowI_ok e).1) hg) r hr
      show r.length = n
      omega
theorem gk_rows_premises (T : Tx K mg) : Gd P w K mg base (L2.CX P w) 5 "rows_premises" ["places", "rows"] [] (f_rows_premises K) := by
  obtain ⟨fd, F⟩ := T.F_rows_premises
  exact ⟨fd, [], fk_rows_premises T F, ⟨.nil, F.bindsN fun _ _ _ _ _ _ us hl => match us, hl with | [_, _], _ => rfl⟩, F.kp⟩
noncomputable def primeR (ms : List (Str × Nat)) (r : Rl) : Rl := (r.1, r.2.1, primeL (plOf ms r.1) ((rowsL (plOf ms r.1)).filter fun q => r.2.2.all (holdB q)))
noncomputable def primeI (ms : List (Str × Nat)) (r : Rl) : RuleIn := ⟨r.1, r.2.1, .tuple ((primeR ms r).2.2.map pmD), (primeR ms r).2.2⟩
theorem prime_plain {n : Nat} {rows : List (List Int)} {p : Pm} (h : p ∈ primeL n rows) : p ∈ plainL n := (List.mem_filter.mp (mem_leastL.mp (mem_primeL.mp h)).1).1
theorem prime_drp {n : Nat} (n3 : n ≤ 3) {rows : List (List Int)} {p : Pm} (h : p ∈ primeL n rows) : DrP n p := by
  have a := plainL_is n p (prime_plain h)
  have b := plainL_few n p (prime_plain h)
  exact ⟨a.s1, a.s2, a.bd, by omega, by omega⟩
theorem prime_few {n : Nat} (n3 : n ≤ 3) (rows : List (List Int)) : (primeL n rows).length ≤ 27 := by
  have h1 := len_sortP (leastL ((plainL n).filter fun e => rows.all fun r => holdB r e))
  have h2 : (leastL ((plainL n).filter fun e => rows.all fun r => holdB r e)).length ≤ (plainL n).length := Nat.le_trans (List.length_filter_le _ _) (List.length_filter_le _ _)
  have h3 := plainL_len n
  have h4 : 3 ^ n ≤ 27 := Nat.le_trans (Nat.pow_le_pow_right (by decide) n3) (by decide)
  show (sortP _).length ≤ 27
  omega
theorem sortP_sortP (ps : List Pm) : sortP (sortP ps) = sortP ps := sortP_congr fun _ => mem_sortP
theorem primeI_rl (ms : List (Str × Nat)) (r : Rl) : (primeI ms r).rl = primeR ms r := by
  show (r.1, r.2.1, sortP (primeL _ _)) = (r.1, r.2.1, primeL _ _)
  have : sortP (primeL (plOf ms r.1) ((rowsL (plOf ms r.1)).filter fun q => r.2.2.all (holdB q))) = primeL (plOf ms r.1) ((rowsL (plOf ms r.1)).filter fun q => r.2.2.all (holdB q)) := sortP_sortP _
  rw [this]
noncomputable def f_prime_book (K : PySem.W.Frag) : FnA (List (Str × Nat) × List Rl) := ⟨fun a => [.fi (He.ga K "Book") (bookF a.1 a.2)], fun _ a => MksOk a.1 ∧ BkOk a.1 a.2 ∧ ∀ r ∈ a.2, r.2.1 = ("left" : Str) ∨ r.2.1 = ("right" : Str), fun a x => x = .fi (He.ga K "Book") (bookF (sortM a.1) (sortR (a.2.map (primeR a.1)))), fun _ _ => False⟩
def N_prime_book : List Str := ["book", "rules", "name", "side", "premises", "places"]
theorem sc_prime_book : FnScope N_prime_book ["book"] (defScope (top 51)) := ⟨rfl, rfl, rfl, by decide +kernel, rfl, by decide +kernel, by decide +kernel⟩
theorem fk_prime_book (T : Tx K mg) {fd : FuncData} (F : FnP K "prime_book" 51 [] (He.ga K "prime_book") fd) : FnOk P w K mg base (L2.CX P w) 7 (He.ga K "prime_book") fd ["book"] (spA K (f_prime_book K)) := by
  refine fnA_ok F sc_prime_book (fun _ => rfl) (fun cdv A ou s H E hr => ⟨_, (pss_cons (ps_set (i := 1) sc_prime_book.nd rfl (Or.inl rfl) (pe_lst pa_nil))
      (pss_cons (ps_for (passes_of rfl) rfl (pi_sq (pe_fld (pe_gd (E := E) (gk_need_book T) (hr.mono (by decide)) rfl T.g_need_book (passes_call (takes_of rfl rfl rfl rfl) fun _ _ _ _ z => z) (pa_cons (pv 0) pa_nil)) rfl)) (pg_tup (by rfl) (pgs_cons (pg_name (i := 2) sc_prime_book.nd rfl (Or.inl rfl)) (pgs_cons (pg_name (i := 3) sc_prime_book.nd rfl (Or.inl rfl)) (pgs_cons (pg_name (i := 4) sc_prime_book.nd rfl (Or.inl rfl)) pgs_nil))))
      (pss_cons (ps_set (i := 5) sc_prime_book.nd rfl (Or.inl rfl) (pe_gm (E := E) (gm_Book_maker_places T) (hr.mono (by decide)) T.k_Book T.h_Book_maker_places (pv 0) (passes_call (takes_of rfl rfl rfl rfl) fun _ _ _ _ z => z) (pa_cons (pv 2) pa_nil)))
      (pss_one (ps_expr (pe_bm PySem.F.plainAttrs_list PySem.F.slot_list_append PySem.F.type_list_append mt_append (pv 1) (pa_cons (pe_tup (pa_cons (pv 2) (pa_cons (pv 3) (pa_cons (pe_gd (gk_prime_of_rows T) (hr.mono (by decide)) rfl T.g__prime_of_rows pass0 (pa_cons (pv 5) (pa_cons (pe_gd (gk_waking_rows T) (hr.mono (by decide)) rfl T.g_waking_rows pass0 (pa_cons (pv 4) (pa_cons (pv 5) pa_nil))) pa_nil))) pa_nil)))) pa_nil))))))
      (pss_one (ps_ret (pe_gi (E := E) (gi_Book T) (hr.mono (by decide)) rfl T.g_Book T.M_Book (passes_call (takes_of rfl rfl rfl rfl) fun _ _ _ _ z => z) (pa_cons (pe_fld (pv 0) rfl) (pa_cons (pv 1) pa_nil))))))), ?_⟩)
  rintro a bx X sb pre hE
  show WS K bx X H _ [some _, none, none, none, none, none] _ _ _ _
  obtain ⟨ms, rs⟩ := a
  obtain ⟨mo, ok, so⟩ := pre
  replace mo : MksOk ms := mo
  replace ok : BkOk ms rs := ok
  replace so : ∀ r ∈ rs, r.2.1 = ("left" : Str) ∨ r.2.1 = ("right" : Str) := so
  have few := ok.few
  refine ws_seq (ws_own (wf_lst (wa_nil ⟨[], rfl, lek rfl, fun D hD => ?_⟩)))
  refine ws_forS [2, 3, 4] [2, 3, 4, 5] (wi_sq (w_fld T.k_Book T.a_Book_rules (w_call (wa_cons (w_var rfl (wa_nil ⟨.bk ms rs, rfl, rfl, trivial, ?_, fun e he => absurd rfl (he.1 ms rs)⟩))))))
  rintro x ⟨_, rfl⟩
  refine ⟨_, .d (.tuple (rs.map rlD)), rfl, rfl, _, rs.map rlD, rfl, rfl, fun i ρ' => ρ' = [some (.fi (He.ga K "Book") (bookF ms rs)), some (.o D ((rs.take i).map fun r => rlD (primeR ms r))), none, none, none, none], rfl, ?_, ?_⟩
  · rintro i z ρ' hz rfl
    rw [List.getElem?_map] at hz
    obtain ⟨r, hr2, rfl⟩ := Option.map_eq_some_iff.mp hz
    have il : i < rs.length := (List.getElem?_eq_some_iff.mp hr2).1
    obtain ⟨n, h1, h2, h3, h4⟩ := ok.rl r (List.mem_of_getElem? hr2)
    have pn : plOf ms r.1 = n := plOf_mem ok.nd h1
    refine wg_tup rfl rfl (wgs_cons (wg_name (by decide) (wgs_cons (wg_name (by decide) (wgs_cons (wg_name (by decide) (wgs_nil ?_)))))))
    refine ws_seq (ws_asg (w_meth (w_var rfl ⟨_, rfl, rfl, rfl, wa_cons (w_var rfl (wa_nil ⟨(ms, rs, r.1, n), rfl, rfl, ⟨ok.nd, h1⟩, ?_, fun e he => False.elim he⟩))⟩)))
    rintro y rfl
    refine ⟨rfl, ?_⟩
    refine ws_append rfl (onlyO rfl) (by rw [List.length_map, List.length_take]; omega) (wa_cons (w_tup (wa_cons (w_var rfl (wa_cons (w_var rfl (wa_cons (w_callF (wa_cons (w_var rfl (wa_cons (w_callF (wa_cons (w_var rfl (wa_cons (w_var rfl ?_))))))))))))))))
    refine wa_nil ⟨(r.2.2, n, false), rfl, rfl, ⟨h3, by show r.2.2.length ≤ 200; omega, h2⟩, wa_nil ⟨(n, (rowsL n).filter fun q => r.2.2.all (holdB q), false), rfl, rfl, ⟨h2, fun q hq => (rowsL_row n q (List.mem_filter.mp hq).1).1, ?_⟩, wa_nil ⟨[.str r.1, .str r.2.1, .tuple ((primeL n ((rowsL n).filter fun q => r.2.2.all (holdB q))).map pmD)], rfl, lek rfl, wa_nil ⟨_, _, rfl, rfl, ?_⟩⟩⟩⟩
    · refine Nat.le_trans (List.length_filter_le _ _) ?_
      rw [rowsL_len]
      exact Nat.le_trans (pow2_8 h2) (by decide)
    · show [_, some (Dat.o D _), _, _, _, _] = _
      rw [out_step hr2]
      have : rlD (primeR ms r) = .tuple [.str r.1, .str r.2.1, .tuple ((primeL n ((rowsL n).filter fun q => r.2.2.all (holdB q))).map pmD)] := by
        unfold primeR
        rw [pn]
        rfl
      rw [this]
  · rintro ρ' rfl
    rw [List.length_map, List.take_length]
    have names : ∀ r ∈ rs, ∃ n, (r.1, n) ∈ ms ∧ n ≤ 3 ∧ plOf ms r.1 = n := fun r h => by
      obtain ⟨n, h1, h2, _⟩ := ok.rl r h
      exact ⟨n, h1, h2, plOf_mem ok.nd h1⟩
    refine ws_frz (i := 1) rfl (onlyO rfl) (ws_ret sb (w_make (wa_cons (w_fld T.k_Book T.a_Book_makers (w_var rfl ⟨_, .pt (ms.map mkD), rfl, rfl, wa_cons (w_var rfl (wa_nil ⟨⟨ms, false, rs.map (primeI ms), true⟩, ?_, rfl, ⟨mo, fun q hq => ?_, by show (rs.map _).length ≤ 60; rw [List.length_map]; exact few⟩, ⟨rfl, ?_⟩, fun e he => False.elim he⟩))⟩)))))
    · show [Dat.d _, Dat.d (.list _)] = [Dat.d _, Dat.d (.list ((rs.map (primeI ms)).map RuleIn.d))]
      rw [List.map_map]
      rfl
    · obtain ⟨r, hr2, rfl⟩ := List.mem_map.mp hq
      obtain ⟨n, h1, h2, pn⟩ := names r hr2
      have hm := mo.ok _ h1
      have ep : (primeR ms r).2.2 = primeL n ((rowsL n).filter fun q => r.2.2.all (holdB q)) := by
        unfold primeR
        rw [pn]
      refine ⟨so r hr2, ⟨hm.1, hm.2.1⟩, n, (primeR ms r).2.2.map pmD, h1, h2, rfl, ?_, fun x hx => ?_, ?_⟩
      · show needGo _ 0 _ = .inr (primeR ms r).2.2
        rw [ep]
        exact need_dr fun p hp => prime_drp h2 hp
      · rw [ep] at hx
        obtain ⟨p, hp, rfl⟩ := List.mem_map.mp hx
        exact few_dr (prime_drp h2 hp)
      · rw [ep, List.length_map]
        have := prime_few h2 ((rowsL n).filter fun q => r.2.2.all (holdB q))
        omega
    · show Dat.fi _ (bookF (sortM ms) (sortR ((rs.map (primeI ms)).map RuleIn.rl))) = Dat.fi _ (bookF (sortM ms) (sortR (rs.map (primeR ms))))
      rw [List.map_map]
      have : (RuleIn.rl ∘ primeI ms) = primeR ms := funext fun r => primeI_rl ms r
      rw [this]
      rfl
theorem gk_prime_book (T : Tx K mg) : Gd P w K mg base (L2.CX P w) 7 "prime_book" ["book"] [] (f_prime_book K) := by
  obtain ⟨fd, F⟩ := T.F_prime_book
  exact ⟨fd, [], fk_prime_book T F, ⟨.nil, F.bindsN fun _ _ _ _ _ _ us hl => match us, hl with | [_], _ => rfl⟩, F.kp⟩
end
end K03

set_option Elab.async false
set_option linter.all false
set_option pp.maxSteps 800
set_option pp.deepTerms false
set_option maxRecDepth 100000
set_option maxHeartbeats 4000000
namespace K03
open PySem PySem.Spec PyProof.Rows L2 Say
def spBox (K : PySem.W.Frag) : Sp := fun vs H Q _ => ∃ (a : Addr) (ns : List Int) (k : Nat), vs = [.ref a, .int k] ∧ SqL K H a (ns.map V.int) ∧ k ≤ 1000 ∧
  ∀ H' p, Same H H' → H p = none → BoxAt H' p → Q (.ref p) H'
/-- a draw: the box alone changes -/
def spTake : Sp := fun vs H Q _ => ∃ (p : Addr) (m : Int), vs = [.ref p, .int m] ∧ BoxAt H p ∧ 0 < m ∧ m < 1073741824 ∧
  ∀ (H' : Hp) (r : Int), 0 ≤ r → r < m → BoxAt H' p → (∀ b, b ≠ p → H' b = H b) → Q (.int r) H'
def spPick (K : PySem.W.Frag) : Sp := fun vs H Q _ => ∃ (p q : Addr) (xs : List V), vs = [.ref p, .ref q] ∧ BoxAt H p ∧ p ≠ q ∧ SqL K H q xs ∧ 0 < xs.length ∧ xs.length ≤ 1000 ∧
  ∀ (H' : Hp) (v : V), v ∈ xs → BoxAt H' p → (∀ b, b ≠ p → H' b = H b) → Q v H'
section
variable {P : Program} {w : World} {K : PySem.W.Frag} {mg : Str → Option Value} {base : Heap}
def NTake : List Str := ["box", "many", "digit", "raw"]
theorem scTake : FnScope NTake ["box", "many"] (defScope (top 54)) := ⟨rfl, rfl, rfl, by decide +kernel, rfl, by decide +kernel, by decide +kernel⟩
theorem ok_take (B : Tx K mg) : GdS P w K mg base CX0 2 "_law_take" ["box", "many"] [] spTake := by
  obtain ⟨fd, F⟩ := B.F__law_take
  refine ⟨fd, [], ?_, ⟨.nil, F.bindsN fun _ _ _ _ _ _ us hl => match us, hl with | [_, _], _ => rfl⟩, F.kp⟩
  refine F.ok scTake (fun vs H Q E h => ?_) (fun cdv A ou s H vs Q E hr h => ?_)
  · obtain ⟨p, m, rfl, _⟩ := h
    rfl
  · obtain ⟨p, m, rfl, ⟨x, y, z, hp⟩, m0, m1, k⟩ := h
    refine ⟨_, PSs.nox (pss_cons (ps_if (pt_cmpR op_gt (pe_ix ix_list (pv 0) pe_int (fun _ _ => rfl)) pe_int (nomark _))
        (pss_cons (ps_set (i := 2) scTake.nd rfl (Or.inl rfl) (pe_op op_mod (pe_callTy call_int1 (by rfl) B.b_int (by decide +kernel) (pa_cons (pe_ix ix_list (pv 0) pe_int (fun _ _ => rfl)) pa_nil)) (pv 1)))
          (pss_cons (ps_asg (pe_op op_fdiv (pe_ix ix_list (pv 0) pe_int (fun _ _ => rfl)) (pv 1)) (pg_sub (pv 0) pe_int set_list))
            (pss_one (ps_ret (pv 2))))) pss_nil)
      (pss_cons (ps_asg (pe_op op_add (pe_ix ix_list (pv 0) pe_int (fun _ _ => rfl)) pe_int) (pg_sub (pv 0) pe_int set_list))
        (pss_cons (ps_set (i := 3) scTake.nd rfl (Or.inl rfl) (pe_op op_mod (pe_callTy call_int1 (by rfl) B.b_int (by decide +kernel) (pa_cons
            (pe_op op_add (pe_op op_mul (pe_op op_add (pe_ix ix_list (pv 0) pe_int (fun _ _ => rfl)) (pe_op op_mul pe_int (pe_ix ix_list (pv 0) pe_int (fun _ _ => rfl)))) pe_int) pe_int) pa_nil)) pe_int))
          (pss_cons (ps_asg (pe_op op_add (pe_op op_mod (pe_callTy call_int1 (by rfl) B.b_int (by decide +kernel) (pa_cons (pe_op op_add (pe_op op_mul (pv 3) pe_int) pe_int) pa_nil)) pe_int) pe_int) (pg_sub (pv 0) pe_int set_list))
            (pss_one (ps_ret (pe_op op_mod (pe_callTy call_int1 (by rfl) B.b_int (by decide +kernel) (pa_cons
              (pe_op op_fdiv (pe_op op_add (pe_op op_mul (pv 3) pe_int) (pe_ix ix_list (pv 0) pe_int (fun _ _ => rfl))) pe_int) pa_nil)) (pv 1)))))))), ?_⟩
    have at0 : ∀ a b c : Int, atI [V.int a, V.int b, V.int c] 0 = some (V.int a) := fun _ _ _ => rfl
    refine ⟨_, rfl, p, _, _, _, rfl, rfl, SqL.of hp, rfl, _, _, rfl, rfl, _, rfl, ?_⟩
    refine ite2 (fun _ => ?_) (fun _ => ?_)
    · refine ⟨_, rfl, p, _, _, _, rfl, rfl, SqL.of hp, rfl, .inl ⟨_, rfl, _, rfl, _, _, rfl, rfl, m0, ?_⟩⟩
      refine ⟨_, rfl, p, _, _, _, rfl, rfl, SqL.of hp, rfl, _, rfl, _, _, rfl, rfl, ⟨m0, m1⟩, ?_⟩
      refine ⟨_, rfl, p, _, _, 0, rfl, rfl, hp, rfl, ?_⟩
      refine ⟨_, rfl, ?_⟩
      exact k _ _ (Int.emod_nonneg _ (by omega)) (Int.emod_lt_of_pos _ m0) ⟨_, _, _, upd_same⟩ (fun b nb => upd_ne nb)
    · refine ⟨_, rfl, p, _, _, _, rfl, rfl, SqL.of hp, rfl, _, _, rfl, rfl, ?_⟩
      refine ⟨_, rfl, p, _, _, 2, rfl, rfl, hp, rfl, ?_⟩
      refine ⟨_, rfl, p, _, _, _, rfl, rfl, SqL.of upd_same, rfl, _, rfl, p, _, _, _, rfl, rfl, SqL.of upd_same, rfl, _, _, rfl, rfl, .inl (by constructor <;> decide), _, _, rfl, rfl, _, _, rfl, rfl, .inr (by constructor <;> decide), _, _, rfl, rfl, ?_⟩
      refine .inl ⟨_, rfl, _, _, rfl, rfl, (by show (0 : Int) < 2147483563; decide), ?_⟩
      refine ⟨_, rfl, _, _, rfl, rfl, .inr (by constructor <;> decide), _, _, rfl, rfl, .inl ⟨_, rfl, _, _, rfl, rfl, (by show (0 : Int) < 2147483629; decide), _, _, rfl, rfl, ?_⟩⟩
      refine ⟨_, rfl, p, _, _, 1, rfl, rfl, upd_same, rfl, ?_⟩
      refine ⟨_, rfl, _, _, rfl, rfl, .inr (by constructor <;> decide), _, rfl, p, _, _, _, rfl, rfl, SqL.of upd_same, rfl, _, _, rfl, rfl, _, _, rfl, rfl, (by constructor <;> decide), ?_⟩
      refine .inl ⟨_, rfl, _, rfl, _, _, rfl, rfl, m0, ?_⟩
      exact k _ _ (Int.emod_nonneg _ (by omega)) (Int.emod_lt_of_pos _ m0) ⟨_, _, _, upd_same⟩ (fun b nb => by rw [upd_ne nb, upd_ne nb])
theorem sqL_eq {H H' : Hp} {q : Addr} {xs : List V} (e : H' q = H q) (h : SqL K H q xs) : SqL K H' q xs := by
  rcases h with (h | ⟨o, h⟩) | h
  · exact .inl (.inl (e.trans h))
  · exact .inl (.inr ⟨o, e.trans h⟩)
  · exact .inr h
theorem scPick : FnScope ["box", "some"] ["box", "some"] (defScope (top 55)) := ⟨rfl, rfl, rfl, by decide +kernel, rfl, by decide +kernel, by decide +kernel⟩
theorem ok_pick (B : Tx K mg) : GdS P w K mg base CX0 3 "_law_pick" ["box", "some"] [] (spPick K) := by
  obtain ⟨fd, F⟩ := B.F__law_pick
  refine ⟨fd, [], ?_, ⟨.nil, F.bindsN fun _ _ _ _ _ _ us hl => match us, hl with | [_, _], _ => rfl⟩, F.kp⟩
  refine F.ok scPick (fun vs H Q E h => ?_) (fun cdv A ou s H vs Q E hr h => ?_)
  · obtain ⟨p, q, xs, rfl, _⟩ := h
    rfl
  · obtain ⟨p, q, xs, rfl, hB, npq, hS, l0, l1, k⟩ := h
    refine ⟨_, PSs.nox (pss_one (ps_ret (pe_ix ix_list (pv 1) (pe_gd (ok_take B) hr rfl B.g__law_take pass0 (pa_cons (pv 0) (pa_cons (pe_callB call_len_seq (by rfl) B.b_len PySem.boot_len (pa_cons (pv 1) pa_nil)) pa_nil))) (fun _ _ => rfl)))), ?_⟩
    refine ⟨_, rfl, _, rfl, _, rfl, q, xs, rfl, .inl hS, p, (xs.length : Int), rfl, hB, by omega, by omega, fun H' r r0 r1 hB' e => ?_⟩
    obtain ⟨j, rfl⟩ : ∃ j : Nat, r = (j : Int) := ⟨r.toNat, (Int.toNat_of_nonneg r0).symm⟩
    have hj : j < xs.length := by omega
    exact ⟨q, xs, (j : Int), xs[j], rfl, rfl, sqL_eq (e q npq.symm) hS, atI_nat (List.getElem?_eq_getElem hj), k H' _ (List.getElem_mem hj) hB' e⟩
/-- what _law_box hands back: its reading, whatever the cell is -/
theorem box_end (K : PySem.W.Frag) (n : Nat) (c : Int) (a : Addr) (H : Hp) (Q : VK) (k : ∀ H' p, Same H H' → H p = none → BoxAt H' p → Q (.ref p) H') :
    tRet (tLst (tCons (tOp (rIxL K) (tLst (tCons (tC (.int 0)) (tCons (tVar 2) tNil))) (tCB (fun xs H Q => (∃ i, xs = [.int i] ∧ Q (.int i) H) ∨ ∃ k, xs = [.bl k] ∧ Q (.int (if k then 1 else 0)) H)
        (tCons (tOp (rI0 fun i j => .bl (decide (j ≤ i))) (tVar 2) (tOp (rI CPow fun i j => .int (i ^ j.toNat)) (tC (.int 10)) (tC (.int 18)))) tNil)))
      (tCons (tOp (rI0 fun i j => .int (i + j)) (tOp (rI (fun _ j => 0 < j) fun i j => .int (i % j)) (tCB (fun xs H Q => (∃ i, xs = [.int i] ∧ Q (.int i) H) ∨ ∃ k, xs = [.bl k] ∧ Q (.int (if k then 1 else 0)) H)
        (tCons (tOp (rI0 fun i j => .int (i + j)) (tOp (rI CMul fun i j => .int (i * j)) (tOp (rI (fun _ j => 0 < j) fun i j => .int (i % j)) (tCB (fun xs H Q => (∃ i, xs = [.int i] ∧ Q (.int i) H) ∨ ∃ k, xs = [.bl k] ∧ Q (.int (if k then 1 else 0)) H)
          (tCons (tVar 2) tNil)) (tC (.int 2147483629))) (tC (.int 38377))) (tOp (rI CMul fun i j => .int (i * j)) (tC (.int 71129)) (tVar 1))) tNil)) (tC (.int 2147483629))) (tC (.int 1)))
        (tCons (tC (.int 0)) tNil)))) { nx := fun _ H' => Q .non H', rt := Q } [some (.ref a), some (.int n), some (.int c)] H := by
  have pick : ∀ b : Bool, ∃ z, atI [V.int 0, V.int c] (if b then 1 else 0) = some (V.int z) := fun b => by
    cases b
    · exact ⟨0, rfl⟩
    · exact ⟨c, rfl⟩
  obtain ⟨z, hz⟩ := pick (decide ((10 : Int) ^ (18 : Int).toNat ≤ c))
  refine ⟨_, rfl, (by show 2 ≤ sizeLine; decide), fun l hl => ?_⟩
  refine ⟨_, rfl, _, _, rfl, rfl, (by refine ⟨by decide, by decide, by decide⟩), _, _, rfl, rfl, .inr ⟨_, rfl, l, _, _, _, rfl, rfl, SqL.of upd_same, hz, ?_⟩⟩
  refine ⟨_, rfl, .inl ⟨_, rfl, _, _, rfl, rfl, (by show (0 : Int) < 2147483629; decide), _, _, rfl, rfl, .inr (by constructor <;> decide), _, rfl, _, _, rfl, rfl, .inl (by constructor <;> decide), _, _, rfl, rfl, ?_⟩⟩
  refine .inl ⟨_, rfl, _, _, rfl, rfl, (by show (0 : Int) < 2147483629; decide), _, _, rfl, rfl, (by show 3 ≤ sizeLine; decide), fun p hp => ?_⟩
  have hpH : H p = none := by
    by_cases e : p = l
    · rw [e]
      exact hl
    · rw [upd_ne e] at hp
      exact hp
  refine k _ p (fun b o q => ?_) hpH ⟨_, _, _, upd_same⟩
  rw [upd_ne (ne_of_none q hpH), upd_ne (ne_of_none q hl)]
  exact q
theorem scBox : FnScope ["script", "k", "cell"] ["script", "k"] (defScope (top 53)) := ⟨rfl, rfl, rfl, by decide +kernel, rfl, by decide +kernel, by decide +kernel⟩
theorem ok_box (B : Tx K mg) : GdS P w K mg base CX0 2 "_law_box" ["script", "k"] [] (spBox K) := by
  obtain ⟨fd, F⟩ := B.F__law_box
  refine ⟨fd, [], ?_, ⟨.nil, F.bindsN fun _ _ _ _ _ _ us hl => match us, hl with | [_, _], _ => rfl⟩, F.kp⟩
  refine F.ok scBox (fun vs H Q E h => ?_) (fun cdv A ou s H vs Q E hr h => ?_)
  · obtain ⟨a, ns, n, rfl, _⟩ := h
    rfl
  · obtain ⟨a, ns, n, rfl, hS, n1, k⟩ := h
    refine ⟨_, PSs.nox (pss_cons (ps_set (i := 2) scBox.nd rfl (Or.inl rfl) (pe_op op_add (pe_op op_mul pe_int (pv 1)) pe_int))
      (pss_cons (ps_if (pt_cmpR op_lt (pv 1) (pe_callB call_len_seq (by rfl) B.b_len PySem.boot_len (pa_cons (pv 0) pa_nil)) (nomark _))
          (pss_one (ps_set (i := 2) scBox.nd rfl (Or.inl rfl) (pe_callB call_abs (by rfl) B.b_abs (by decide +kernel) (pa_cons (pe_ix ix_list (pv 0) (pv 1) (fun _ _ => rfl)) pa_nil))))
          (pss_one (ps_if (pt_cmpR op_gt (pe_callB call_len_seq (by rfl) B.b_len PySem.boot_len (pa_cons (pv 0) pa_nil)) pe_int (nomark _))
            (pss_one (ps_set (i := 2) scBox.nd rfl (Or.inl rfl) (pe_op op_add (pv 2) (pe_op op_mul (pe_op op_mod (pe_callTy call_int1 (by rfl) B.b_int (by decide +kernel) (pa_cons
              (pe_callB call_abs (by rfl) B.b_abs (by decide +kernel) (pa_cons (pe_ix ix_list (pv 0) (pe_op op_mod (pe_callTy call_int1 (by rfl) B.b_int (by decide +kernel) (pa_cons (pv 1) pa_nil))
                (pe_callB call_len_seq (by rfl) B.b_len PySem.boot_len (pa_cons (pv 0) pa_nil))) (fun _ _ => rfl)) pa_nil)) pa_nil)) pe_int) pe_int)))) pss_nil)))
      (pss_one (ps_ret (pe_lst (pa_cons (pe_ix ix_list (pe_lst (pa_cons pe_int (pa_cons (pv 2) pa_nil))) (pe_callTy call_int1 (by rfl) B.b_int (by decide +kernel) (pa_cons
          (pe_cmpR op_ge (pv 2) (pe_op op_pow pe_int pe_int) (nomark _)) pa_nil)) (fun _ _ => rfl))
        (pa_cons (pe_op op_add (pe_op op_mod (pe_callTy call_int1 (by rfl) B.b_int (by decide +kernel) (pa_cons (pe_op op_add (pe_op op_mul (pe_op op_mod (pe_callTy call_int1 (by rfl) B.b_int (by decide +kernel) (pa_cons (pv 2) pa_nil)) pe_int) pe_int)
          (pe_op op_mul pe_int (pv 1))) pa_nil)) pe_int) pe_int) (pa_cons pe_int pa_nil)))))))), ?_⟩
    have get : ∀ {j : Nat}, j < ns.length → ∃ z, atI (ns.map V.int) (j : Int) = some (V.int z) := fun {j} hj =>
      ⟨ns[j], atI_nat (by rw [List.getElem?_map, List.getElem?_eq_getElem hj]; rfl)⟩
    have ll : ((ns.map V.int).length : Int) = (ns.length : Int) := by rw [List.length_map]
    refine ⟨_, rfl, _, _, rfl, rfl, .inl (by constructor <;> decide), _, _, rfl, rfl, ?_⟩
    refine ⟨_, rfl, _, rfl, a, _, rfl, .inl hS, _, _, rfl, rfl, _, rfl, ?_⟩
    refine ite2 (fun c => ?_) (fun c => ?_)
    · have hn : n < ns.length := by
        have z := of_decide_eq_true c
        omega
      obtain ⟨z, hz⟩ := get hn
      refine ⟨_, rfl, _, rfl, a, _, _, _, rfl, rfl, hS, hz, _, rfl, ?_⟩
      exact box_end K n _ a H Q k
    · refine ⟨_, rfl, a, _, rfl, .inl hS, _, _, rfl, rfl, _, rfl, ?_⟩
      refine ite2 (fun c2 => ?_) (fun _ => ?_)
      · have z := of_decide_eq_true c2
        have l0 : 0 < (ns.length : Int) := by omega
        have r0 : 0 ≤ (n : Int) % (ns.length : Int) := Int.emod_nonneg _ (by omega)
        have r1 : (n : Int) % (ns.length : Int) < (ns.length : Int) := Int.emod_lt_of_pos _ l0
        obtain ⟨j, ej⟩ : ∃ j : Nat, (n : Int) % (ns.length : Int) = (j : Int) := ⟨_, (Int.toNat_of_nonneg r0).symm⟩
        obtain ⟨u, hu⟩ := get (j := j) (by omega)
        rw [← ej, ← ll] at hu
        refine ⟨_, rfl, _, rfl, _, rfl, .inl ⟨_, rfl, _, rfl, a, _, rfl, .inl hS, _, _, rfl, rfl, by omega, a, _, _, _, rfl, rfl, hS, hu, _, rfl, .inl ⟨_, rfl, _, _, rfl, rfl, (by show (0 : Int) < 2147483629; decide), _, _, rfl, rfl, .inr (by constructor <;> decide), _, _, rfl, rfl, ?_⟩⟩⟩
        exact box_end K n _ a H Q k
      · exact box_end K n _ a H Q k
end
section
variable {K : PySem.W.Frag} {bx X0 : Addr → Prop} {H0 : Hp} {ρ : Rho} {Φ : Dat → Prop}
theorem fr_box {H H' : Hp} {p : Addr} (hb : bx p) (b0 : BoxAt H p) (b' : BoxAt H' p) (e : ∀ b, b ≠ p → H' b = H b) : Fr bx H H' :=
  ⟨fun b o nb nt h => by rw [e b (fun z => nb (by rw [z]; exact hb))]; exact h, fun b h => by
    by_cases c : b = p
    · obtain ⟨x, y, z, q⟩ := b'
      rw [c, q]
      exact fun z => by cases z
    · rw [e b c]
      exact h, fun b h1 h2 => by
    by_cases c : b = p
    · rw [c]
      exact b'
    · obtain ⟨x, y, z, q⟩ := h2
      exact ⟨x, y, z, by rw [e b c]; exact q⟩, fun P t => by
    obtain ⟨x, y, z, q⟩ := b0
    have np : P ≠ p := fun c => by
      obtain ⟨_, h, _⟩ := t
      rw [c, q] at h
      cases h
    obtain ⟨ps, h1, h2, h3⟩ := t
    refine ⟨ps, (e P np).trans h1, h2, fun pos cv g => ?_⟩
    obtain ⟨c, rfl, hc⟩ := h3 pos cv g
    exact ⟨c, rfl, (e c fun z => nc_lst q _ (by rw [← z]; exact hc)).trans hc⟩⟩
/-- a draw -/
theorem w_take {E : XK} {ta : TA} (h : WA K bx X0 H0 ta ρ fun xs => ∃ (p : Addr) (m : Int), xs = [.v (.ref p), .d (.int m)] ∧ bx p ∧ 0 < m ∧ m < 1073741824 ∧ ∀ r : Int, 0 ≤ r → r < m → Φ (.d (.int r))) : W K bx X0 H0 (tCall spTake [] E ta) ρ Φ := fun X H σ e Q k =>
  h X H σ e _ fun vs xs H1 f d ⟨p, m, e1, hb, m0, m1, q⟩ => by
    subst e1
    cases d with
    | cons d1 r =>
      obtain ⟨u, rfl, d2⟩ := da1 r
      have e2 : _ = V.ref p := d1
      subst e2
      cases da_d d2
      have e3 := e.toEnX.go f
      exact ⟨p, m, rfl, e3.bo p hb, m0, m1, fun H' r r0 r1 b' eq => k _ _ H' (f.trans (fr_box hb (e3.bo p hb) b' eq)) (ok_d (.int r)) (q r r0 r1)⟩
/-- one of a list's things -/
theorem w_pick {E : XK} {ta : TA} (h : WA K bx X0 H0 ta ρ fun xs => ∃ (p : Addr) (ys : List PyData), xs = [.v (.ref p), .ls ys] ∧ bx p ∧ 0 < ys.length ∧ ys.length ≤ 1000 ∧ ∀ y ∈ ys, Φ (.d y)) : W K bx X0 H0 (tCall (spPick K) [] E ta) ρ Φ := fun X H σ e Q k =>
  h X H σ e _ fun vs xs H1 f d ⟨p, ys, e1, hb, l0, l1, q⟩ => by
    subst e1
    cases d with
    | cons d1 r =>
      obtain ⟨u, rfl, d2⟩ := da1 r
      have e2 : _ = V.ref p := d1
      subst e2
      obtain ⟨a, us, rfl, h1, h2⟩ := da_ls d2
      have e3 := e.toEnX.go f
      have hl := dpAll_len h2
      have na : p ≠ a := fun z => (core_some h1).1 (by rw [← z]; exact e3.sub p hb)
      refine ⟨p, a, us, rfl, e3.bo p hb, na, SqL.of (core_le _ _ h1), by omega, by omega, fun H' v hv b' eq => ?_⟩
      obtain ⟨j, hj⟩ := List.mem_iff_getElem?.mp hv
      have lj := (List.getElem?_eq_some_iff.mp hj).1
      have hy : ys[j]? = some ys[j] := List.getElem?_eq_getElem (by omega)
      have fr := fr_box hb (e3.bo p hb) b' eq
      exact k v _ H' (f.trans fr) (ok_d (dp_mono (core_fr fr e3.sub) _ _ (dpAll_at2 h2 hj hy))) (q _ (List.mem_of_getElem? hy))
end
end K03

set_option Elab.async false
set_option linter.all false
set_option pp.maxSteps 1500
set_option pp.deepTerms false
set_option maxRecDepth 100000
set_option maxHeartbeats 8000000
namespace K03
open PySem PySem.Spec PyProof.Rows L2 Say
section
variable {P : Program} {w : World} {K : PySem.W.Frag} {mg : Str → Option Value} {base : Heap}
def f_rowsW : FnA Nat := fnF (fun n => [.d (.int (n : Nat))]) (fun n => n ≤ 3) (fun n => .ls ((rowsL n).map rowD))
def two01 (r : List Int) : List (List Int) := [r ++ [0], r ++ [1]]
theorem rowsL_two (n : Nat) : rowsL (n + 1) = (rowsL n).flatMap two01 := rfl
theorem two_len : ∀ l : List (List Int), (l.flatMap two01).length = 2 * l.length
  | [] => rfl
  | r :: l => by
    rw [List.flatMap_cons, List.length_append, two_len l, List.length_cons]
    show 2 + 2 * l.length = _
    omega
def N_rows : List Str := ["places", "rows", "turn", "longer", "row"]
theorem sc_rows : FnScope N_rows ["places"] (defScope (top 57)) := ⟨rfl, rfl, rfl, by decide +kernel, rfl, by decide +kernel, by decide +kernel⟩
theorem fl_rows (T : Tx K mg) {fd : FuncData} (F : FnP K "_law_rows" 57 [] (He.ga K "_law_rows") fd) : FnOk P w K mg base CX0 1 (He.ga K "_law_rows") fd ["places"] (spA K f_rowsW) := by
  refine fnA_ok F sc_rows (fun _ => rfl) (fun cdv A ou s H E hr => ⟨_, (PSs.nox (pss_cons (ps_set (i := 1) sc_rows.nd rfl (Or.inl rfl) (pe_lst (pa_cons (pe_tup pa_nil) pa_nil)))
      (pss_cons (ps_for PassesOwn.never rfl (pi_range1 (by rfl) T.b_range (pa_cons (pv 0) pa_nil)) (pg_name (i := 2) sc_rows.nd rfl (Or.inl rfl))
      (pss_cons (ps_set (i := 3) sc_rows.nd rfl (Or.inl rfl) (pe_lst pa_nil))
      (pss_cons (ps_for PassesOwn.never rfl (pi_sq (pv 1)) (pg_name (i := 4) sc_rows.nd rfl (Or.inl rfl))
      (pss_one (ps_expr (pe_bm PySem.F.plainAttrs_list PySem.F.slot_list_extend PySem.F.type_list_extend mt_extend (pv 3) (pa_cons (pe_lst (pa_cons (pe_op (cataK K rfl) (pv 4) (pe_tup (pa_cons pe_int pa_nil))) (pa_cons (pe_op (cataK K rfl) (pv 4) (pe_tup (pa_cons pe_int pa_nil))) pa_nil))) pa_nil)))))
      (pss_one (ps_set (i := 1) sc_rows.nd rfl (Or.inl rfl) (pv 3))))))
      (pss_one (ps_ret (pv 1)))))), ?_⟩)
  rintro a bx X sb pre hE
  show WS K bx X H _ [some _, none, none, none, none] _ _ _ _
  replace pre : a ≤ 3 := pre
  refine ws_seq (ws_own (wf_lst (wa_cons (w_tup (wa_nil ⟨[], rfl, lek rfl, wa_nil ⟨[.tuple []], rfl, lek rfl, fun D hD => ?_⟩⟩)))))
  refine ws_frz (i := 1) rfl (only1 rfl) ?_
  refine ws_forS [2] [2, 3, 4] (wi_r1 (wa_cons (w_var rfl (wa_nil ⟨(a : Nat), rfl, by omega, by omega, fun i ρ' => ρ' = [some (.d (.int (a : Nat))), some (.ls ((rowsL i).map rowD)), none, none, none], rfl, ?_, ?_⟩))))
  · rintro i z ρ' hz rfl
    rw [Int.toNat_natCast, List.getElem?_map] at hz
    obtain ⟨i2, hi, rfl⟩ := Option.map_eq_some_iff.mp hz
    have il : i < a := by
      have := (List.getElem?_eq_some_iff.mp hi).1
      rwa [List.length_range] at this
    have l8 : (rowsL i).length ≤ 8 := by
      rw [rowsL_len]
      exact pow2_8 (by omega)
    refine wg_name (by decide) ?_
    refine ws_seq (ws_own (wf_lst (wa_nil ⟨[], rfl, lek rfl, fun D2 hD2 => ?_⟩)))
    refine ws_forS [4] [4] (wi_sq (w_var rfl ⟨_, (rowsL i).map rowD, rfl, rfl, fun j ρ2 => ρ2 = [some (.d (.int (a : Nat))), some (.ls ((rowsL i).map rowD)), some (.d (.int (i2 : Nat))), some (.o D2 ((((rowsL i).take j).flatMap two01).map rowD)), none], rfl, ?_, ?_⟩))
    · rintro j y ρ2 hy rfl
      rw [List.getElem?_map] at hy
      obtain ⟨r, hr2, rfl⟩ := Option.map_eq_some_iff.mp hy
      have rl : r.length = i := (rowsL_row i r (List.mem_of_getElem? hr2)).1
      have tl : ((rowsL i).take j).length ≤ 8 := by rw [List.length_take]; omega
      refine wg_name (by decide) ?_
      refine ws_extend rfl (only1 rfl) (wa_cons (w_of_wf (wf_lst (wa_cons (w_catT (w_var rfl (w_tup (wa_cons (w_int (wa_nil ⟨[.int 0], rfl, lek rfl, r.map PyData.int, [.int 0], rfl, rfl, ?_, ?_⟩))))))))))
      · rw [List.length_map]
        show r.length + 1 ≤ 100000
        omega
      refine wa_cons (w_catT (w_var rfl (w_tup (wa_cons (w_int (wa_nil ⟨[.int 1], rfl, lek rfl, r.map PyData.int, [.int 1], rfl, rfl, ?_, wa_nil ⟨_, rfl, lek rfl, wa_nil ⟨_, rfl, ?_, ?_⟩⟩⟩))))))
      · rw [List.length_map]
        show r.length + 1 ≤ 100000
        omega
      · rw [List.length_map, two_len]
        show _ + 2 ≤ 100000
        omega
      · have e : (((rowsL i).take (j + 1)).flatMap two01).map rowD = (((rowsL i).take j).flatMap two01).map rowD ++ [PyData.tuple (r.map PyData.int ++ [.int 0]), PyData.tuple (r.map PyData.int ++ [.int 1])] := by
          rw [List.take_succ, hr2, List.flatMap_append, List.map_append]
          show _ ++ [PyData.tuple ((r ++ [0]).map PyData.int), PyData.tuple ((r ++ [1]).map PyData.int)] = _
          rw [List.map_append, List.map_append]
          rfl
        show [_, _, _, some (Dat.o D2 _), none] = [_, _, _, some (Dat.o D2 _), none]
        rw [e]
    · rintro ρ2 rfl
      rw [List.length_map, List.take_length]
      exact ws_frz (i := 3) rfl (only1 rfl) (ws_asg (w_var rfl ⟨rfl, rfl⟩))
  · rintro ρ' rfl
    rw [List.length_map, List.length_range, Int.toNat_natCast]
    exact ws_ret sb (w_var rfl ⟨rfl, rfl⟩)
theorem gl_rows (T : Tx K mg) : Gd P w K mg base CX0 1 "_law_rows" ["places"] [] f_rowsW := by
  obtain ⟨fd, F⟩ := T.F__law_rows
  exact ⟨fd, [], fl_rows T F, ⟨.nil, F.bindsN fun _ _ _ _ _ _ us hl => match us, hl with | [_], _ => rfl⟩, F.kp⟩
def f_premiseW : FnA (Addr × Nat) := ⟨fun a => [.v (.ref a.1), .d (.int (a.2 : Nat))], fun bx a => bx a.1 ∧ a.2 ≤ 3, fun a x => ∃ q : Pm, x = .d (pmD q) ∧ DrP a.2 q, fun _ _ => False⟩
def N_premise : List Str := ["box", "places", "side", "place"]
theorem sc_premise : FnScope N_premise ["box", "places"] (defScope (top 56)) := ⟨rfl, rfl, rfl, by decide +kernel, rfl, by decide +kernel, by decide +kernel⟩
theorem fl_premise (T : Tx K mg) {fd : FuncData} (F : FnP K "_law_premise" 56 [] (He.ga K "_law_premise") fd) : FnOk P w K mg base CX0 3 (He.ga K "_law_premise") fd ["box", "places"] (spA K f_premiseW) := by
  refine fnA_ok F sc_premise (fun _ => rfl) (fun cdv A ou s H E hr => ⟨_, (PSs.nox (pss_one (ps_ret (pe_callTy (show CallR _ _ (rTup K) from call_tuple_of) (by rfl) T.b_tuple (by decide +kernel) (pa_cons (pe_lc (own := [("side", 2)]) (g := gName 2) (tt := tYes) rfl sc_premise.nd (pi_range1 (by rfl) T.b_range (pa_cons pe_int pa_nil)) (blkOk_by (N := N_premise) (sc := defScope (top 56)) (by decide +kernel)) (fun _ _ _ _ _ => (pg_name (i := 2) sc_premise.nd rfl (by first | exact Or.inl rfl | exact Or.inr rfl))) (fun _ _ _ _ _ => pts_nil) (fun _ _ _ _ _ => (pe_callTy (show CallR _ _ (rTup K) from call_tuple_of) (by rfl) T.b_tuple (by decide +kernel) (pa_cons (pe_lc (own := [("place", 3)]) (g := gName 3) rfl sc_premise.nd (pi_range2 (by rfl) T.b_range (pa_cons pe_int (pa_cons (pe_op op_add (pv 1) pe_int) pa_nil))) (blkOk_by (N := N_premise) (sc := ({ kind := .function, names := [(".0", .local), ("side", .local), ("tuple", .globalImplicit), ("range", .globalImplicit), ("box", .cell), ("places", .cell)], isGenerator := false, isCoroutine := false } : Scope)) (by decide +kernel)) (fun _ _ _ _ _ => (pg_name (i := 3) sc_premise.nd rfl (by first | exact Or.inl rfl | exact Or.inr rfl))) (fun _ _ _ _ _ => (pts_one (pt_cmpR op_eq (pe_gd (ok_take T) (hr.mono (by decide)) rfl T.g__law_take pass0 (pa_cons (pv 0) (pa_cons pe_int pa_nil))) pe_int (nomark _)))) (fun _ _ _ _ _ => (pv 3))) pa_nil)))) pa_nil))))), ?_⟩)
  rintro a bx X sb pre hE
  show WS K bx X H _ [some _, some _, none, none] _ _ _ _
  obtain ⟨p, n⟩ := a
  obtain ⟨hb, n3⟩ := pre
  replace hb : bx p := hb
  replace n3 : n ≤ 3 := n3
  refine ws_ret sb (w_tuple (wa_cons (w_of_wf (wf_lcI (wi_r1 (wa_cons (w_int (wa_nil ⟨2, rfl, by decide, by decide, fun j out => ∃ l : List (List Int), out = l.map (fun s => .tuple (s.map PyData.int)) ∧ l.length = j ∧ ∀ s ∈ l, s.Pairwise (· < ·) ∧ (∀ x ∈ s, 1 ≤ x ∧ x ≤ (n : Int)) ∧ s.length ≤ 3, ⟨[], rfl, rfl, (fun s hs => nomatch hs)⟩, ?_, ?_⟩))))))))
  · rintro j d out hj ⟨l, rfl, ll, hl⟩
    rw [List.getElem?_map] at hj
    obtain ⟨j2, hj2, rfl⟩ := Option.map_eq_some_iff.mp hj
    have jl : j < 2 := by
      have := (List.getElem?_eq_some_iff.mp hj2).1
      rwa [List.length_range] at this
    refine ⟨by rw [List.length_map]; omega, wg_name (by decide) (wt_yes ⟨fun _ => ?_, (fun c => nomatch c)⟩)⟩
    refine w_tuple (wa_cons (w_of_wf (wf_lcI (wi_r2 (wa_cons (w_int (wa_cons (w_add (w_var rfl (w_int ⟨(n : Nat), 1, rfl, rfl, wa_nil ⟨1, (n : Int) + 1, rfl, ⟨by decide, by decide, by omega, by omega⟩, fun i out => ∃ s : List Int, out = s.map PyData.int ∧ s.Pairwise (· < ·) ∧ (∀ x ∈ s, 1 ≤ x ∧ x ≤ (i : Int)) ∧ s.length ≤ i, ⟨[], rfl, .nil, (fun s hs => nomatch hs), Nat.le_refl _⟩, ?_, ?_⟩⟩))))))))))
    · rintro i d out hi ⟨s, rfl, hs1, hs2, hs3⟩
      rw [List.getElem?_map] at hi
      obtain ⟨i2, hi2, rfl⟩ := Option.map_eq_some_iff.mp hi
      have il : i < n := by
        have := (List.getElem?_eq_some_iff.mp hi2).1
        rw [List.length_range] at this
        omega
      have ei : i2 = i := by
        have := (List.getElem?_eq_some_iff.mp hi2).2
        rw [List.getElem_range] at this
        exact this.symm
      subst ei
      refine ⟨by rw [List.length_map]; omega, wg_name (by decide) (wt_test (w_eqI (w_take (wa_cons (w_var rfl (wa_cons (w_int (wa_nil ⟨p, 3, rfl, hb, by decide, by decide, fun r r0 r1 => w_int ⟨r, 0, rfl, rfl, _, rfl, fun c => w_var rfl ⟨.int (1 + (i2 : Nat)), rfl, s ++ [1 + (i2 : Int)], by rw [List.map_append]; rfl, ?_, ?_, ?_⟩, fun c => ⟨s, rfl, hs1, fun x hx => ?_, by omega⟩⟩⟩))))))))⟩
      · refine List.pairwise_append.mpr ⟨hs1, List.pairwise_singleton _ _, fun a ha b hb => ?_⟩
        rw [List.mem_singleton.mp hb]
        have := hs2 a ha
        omega
      · intro x hx
        rcases List.mem_append.mp hx with hx | hx
        · have := hs2 x hx
          omega
        · rw [List.mem_singleton.mp hx]
          omega
      · rw [List.length_append]
        show s.length + 1 ≤ i2 + 1
        omega
      · have := hs2 x hx
        omega
    · rintro out ⟨s, rfl, hs1, hs2, hs3⟩
      rw [List.length_map, List.length_range] at hs2 hs3
      refine wa_nil ⟨_, s.map PyData.int, rfl, rfl, .tuple (s.map PyData.int), rfl, l ++ [s], by rw [List.map_append]; rfl, by rw [List.length_append, ll]; rfl, fun t ht => ?_⟩
      rcases List.mem_append.mp ht with ht | ht
      · exact hl t ht
      · rw [List.mem_singleton.mp ht]
        exact ⟨hs1, fun x hx => by have := hs2 x hx; omega, by omega⟩
  · rintro out ⟨l, rfl, ll, hl⟩
    rw [List.length_map, List.length_range] at ll
    match l, ll, hl with
    | [a, b], _, hl =>
      obtain ⟨a1, a2, a3⟩ := hl a List.mem_cons_self
      obtain ⟨b1, b2, b3⟩ := hl b (List.mem_cons_of_mem _ List.mem_cons_self)
      refine wa_nil ⟨_, _, rfl, rfl, rfl, (a, b), rfl, a1, b1, fun x hx => ?_, a3, b3⟩
      rcases List.mem_append.mp hx with hx | hx
      · exact a2 x hx
      · exact b2 x hx
theorem gl_premise (T : Tx K mg) : Gd P w K mg base CX0 3 "_law_premise" ["box", "places"] [] f_premiseW := by
  obtain ⟨fd, F⟩ := T.F__law_premise
  exact ⟨fd, [], fl_premise T F, ⟨.nil, F.bindsN fun _ _ _ _ _ _ us hl => match us, hl with | [_, _], _ => rfl⟩, F.kp⟩
theorem nin_false : ∀ bs : List Bool, (!decide (false ∈ bs)) = bs.all id
  | [] => rfl
  | b :: bs => by
    have ih := nin_false bs
    rw [List.all_cons, ← ih]
    cases b <;> simp
def f_holdsW : FnA (Pm × List Int) := fnF (fun a => [.d (pmD a.1), .d (rowD a.2)]) (fun a => (∀ x ∈ a.1.1 ++ a.1.2, 1 ≤ x ∧ x ≤ (a.2.length : Int)) ∧ a.1.1.length ≤ 100 ∧ a.1.2.length ≤ 100) (fun a => .d (.bool (holdB a.2 a.1)))
def N_holds : List Str := ["premise", "row", "lefts", "rights", "place"]
theorem sc_holds : FnScope N_holds ["premise", "row"] (defScope (top 58)) := ⟨rfl, rfl, rfl, by decide +kernel, rfl, by decide +kernel, by decide +kernel⟩
theorem fl_holds (T : Tx K mg) {fd : FuncData} (F : FnP K "_law_holds" 58 [] (He.ga K "_law_holds") fd) : FnOk P w K mg base CX0 1 (He.ga K "_law_holds") fd ["premise", "row"] (spA K f_holdsW) := by
  refine fnA_ok F sc_holds (fun _ => rfl) (fun cdv A ou s H E hr => ⟨_, (PSs.nox (pss_cons (ps_par (i := 2) (j := 3) (by rfl) sc_holds.nd rfl rfl (by decide) rfl rfl (pa_cons (pe_lc (own := [("place", 4)]) (g := gName 4) (tt := tYes) rfl sc_holds.nd (pi_sq (pe_ix ix_sq (pv 0) pe_int (fun _ _ => rfl))) (blkOk_by (N := N_holds) (sc := defScope (top 58)) (by decide +kernel)) (fun _ _ _ _ _ => (pg_name (i := 4) sc_holds.nd rfl (by first | exact Or.inl rfl | exact Or.inr rfl))) (fun _ _ _ _ _ => pts_nil) (fun _ _ _ _ _ => (pe_ix (ixK K rfl) (pv 1) (pe_op op_sub (pv 4) pe_int) (fun _ _ => rfl)))) (pa_cons (pe_lc (own := [("place", 4)]) (g := gName 4) (tt := tYes) rfl sc_holds.nd (pi_sq (pe_ix ix_sq (pv 0) pe_int (fun _ _ => rfl))) (blkOk_by (N := N_holds) (sc := defScope (top 58)) (by decide +kernel)) (fun _ _ _ _ _ => (pg_name (i := 4) sc_holds.nd rfl (by first | exact Or.inl rfl | exact Or.inr rfl))) (fun _ _ _ _ _ => pts_nil) (fun _ _ _ _ _ => (pe_ix (ixK K rfl) (pv 1) (pe_op op_sub (pv 4) pe_int) (fun _ _ => rfl)))) pa_nil)) (by rfl))
      (pss_one (ps_ret (pe_or (pe_cmpR (inK K rfl) pe_int (pv 2) rfl) (pe_one (pe_cmpR (inK K rfl) pe_int (pv 3) rfl))))))), ?_⟩)
  rintro a bx X sb pre hE
  show WS K bx X H _ [some _, some _, none, none, none] _ _ _ _
  obtain ⟨⟨l, r⟩, row⟩ := a
  obtain ⟨hb, l1, l2⟩ := pre
  replace hb : ∀ x ∈ l ++ r, 1 ≤ x ∧ x ≤ (row.length : Int) := hb
  replace l1 : l.length ≤ 100 := l1
  replace l2 : r.length ≤ 100 := l2
  have one : ∀ (ρ2 : Rho) (i : Nat) (x : Int) (Φ2 : Dat → Prop), ρ2[1]? = some (some (.d (rowD row))) → ρ2[4]? = some (some (.d (.int x))) → 1 ≤ x → x ≤ (row.length : Int) → Φ2 (.d (.int (rv row x))) → W K bx X H (tOp (rIxS2 K) (tVar 1) (tOp (rI0 fun i j => .int (i - j)) (tVar 4) (tC (.int 1)))) ρ2 Φ2 := fun ρ2 i x Φ2 e1 e4 x1 x2 q => w_ix (w_var e1 (w_sub (w_var e4 (w_int ⟨x, 1, rfl, rfl, _, _, _, rfl, rfl, rowD_at x1 x2, q⟩))))
  refine ws_seq (ws_par (wa_cons (w_of_wf (wf_map (wi_sq (w_ix (w_var rfl (w_int ⟨[.tuple (l.map PyData.int), .tuple (r.map PyData.int)], 0, .tuple (l.map PyData.int), rfl, rfl, rfl, _, l.map PyData.int, rfl, rfl, few l1, Int, l, PyData.int, fun x => .int (rv row x), rfl, fun x hx => wg_name (by decide) (one _ 0 x _ rfl rfl (hb x (List.mem_append_left _ hx)).1 (hb x (List.mem_append_left _ hx)).2 rfl), ?_⟩))))))))
  refine wa_cons (w_of_wf (wf_map (wi_sq (w_ix (w_var rfl (w_int ⟨[.tuple (l.map PyData.int), .tuple (r.map PyData.int)], 1, .tuple (r.map PyData.int), rfl, rfl, rfl, _, r.map PyData.int, rfl, rfl, few l2, Int, r, PyData.int, fun x => .int (rv row x), rfl, fun x hx => wg_name (by decide) (one _ 0 x _ rfl rfl (hb x (List.mem_append_right _ hx)).1 (hb x (List.mem_append_right _ hx)).2 rfl), ?_⟩))))))
  refine wa_nil ⟨_, _, rfl, rfl, rfl, ?_⟩
  have sq : ∀ k : List Int, seq? (.ls (k.map fun x => PyData.int (rv row x))) = some ((k.map (rv row)).map PyData.int) := fun k => by
    rw [List.map_map]
    rfl
  refine ws_ret sb (w_orV (w_inI (w_int (w_var rfl ⟨0, l.map (rv row), rfl, sq l, _, rfl, fun c => ⟨rfl, ?_⟩, fun c => w_inI (w_int (w_var rfl ⟨1, r.map (rv row), rfl, sq r, rfl, ?_⟩))⟩))))
  · show Dat.d (.bool true) = Dat.d (.bool (decide _ || decide _))
    rw [c]
    rfl
  · show Dat.d (.bool _) = Dat.d (.bool (decide _ || decide _))
    rw [c]
    rfl
theorem gl_holds (T : Tx K mg) : Gd P w K mg base CX0 1 "_law_holds" ["premise", "row"] [] f_holdsW := by
  obtain ⟨fd, F⟩ := T.F__law_holds
  exact ⟨fd, [], fl_holds T F, ⟨.nil, F.bindsN fun _ _ _ _ _ _ us hl => match us, hl with | [_, _], _ => rfl⟩, F.kp⟩
def f_wakesW : FnA (List Pm × List Int × Bool) := fnF (fun a => [.d (seqOf a.2.2 (a.1.map pmD)), .d (rowD a.2.1)]) (fun a => (∀ p ∈ a.1, (∀ x ∈ p.1 ++ p.2, 1 ≤ x ∧ x ≤ (a.2.1.length : Int)) ∧ p.1.length ≤ 100 ∧ p.2.length ≤ 100) ∧ a.1.length ≤ 200) (fun a => .d (.bool (a.1.all (holdB a.2.1))))
def N_wakes : List Str := ["premises", "row", "premise"]
theorem sc_wakes : FnScope N_wakes ["premises", "row"] (defScope (top 59)) := ⟨rfl, rfl, rfl, by decide +kernel, rfl, by decide +kernel, by decide +kernel⟩
theorem fl_wakes (T : Tx K mg) {fd : FuncData} (F : FnP K "_law_wakes" 59 [] (He.ga K "_law_wakes") fd) : FnOk P w K mg base CX0 2 (He.ga K "_law_wakes") fd ["premises", "row"] (spA K f_wakesW) := by
  refine fnA_ok F sc_wakes (fun _ => rfl) (fun cdv A ou s H E hr => ⟨_, (PSs.nox (pss_one (ps_ret (pe_not (pe_cmpR (inK K rfl) pe_bl (pe_lc (own := [("premise", 2)]) (g := gName 2) (tt := tYes) rfl sc_wakes.nd (pi_sq (pv 0)) (blkOk_by (N := N_wakes) (sc := defScope (top 59)) (by decide +kernel)) (fun _ _ _ _ _ => (pg_name (i := 2) sc_wakes.nd rfl (by first | exact Or.inl rfl | exact Or.inr rfl))) (fun _ _ _ _ _ => pts_nil) (fun _ _ _ _ _ => (pe_gd (gl_holds T) (hr.mono (by decide)) rfl T.g__law_holds pass0 (pa_cons (pv 2) (pa_cons (pv 1) pa_nil))))) rfl))))), ?_⟩)
  rintro a bx X sb pre hE
  show WS K bx X H _ [some _, some _, none] _ _ _ _
  obtain ⟨ps, r, b⟩ := a
  obtain ⟨hp, hl⟩ := pre
  replace hp : ∀ p ∈ ps, (∀ x ∈ p.1 ++ p.2, 1 ≤ x ∧ x ≤ (r.length : Int)) ∧ p.1.length ≤ 100 ∧ p.2.length ≤ 100 := hp
  replace hl : ps.length ≤ 200 := hl
  refine ws_ret sb (w_notV (w_inB (w_bl (w_of_wf (wf_map (wi_sq (w_var rfl ⟨_, ps.map pmD, rfl, seqOf_seq b _, few hl, Pm, ps, pmD, fun p => .bool (holdB r p), rfl, fun p h => wg_name (by decide) (w_callF (wa_cons (w_var rfl (wa_cons (w_var rfl (wa_nil ⟨(p, r), rfl, rfl, hp p h, rfl⟩)))))), ?_⟩)))))))
  refine ⟨false, ps.map (holdB r), rfl, by rw [List.map_map]; rfl, _, rfl, rfl, ?_⟩
  show Dat.d (.bool _) = Dat.d (.bool (ps.all (holdB r)))
  rw [nin_false, List.all_map]
  rfl
theorem gl_wakes (T : Tx K mg) : Gd P w K mg base CX0 2 "_law_wakes" ["premises", "row"] [] f_wakesW := by
  obtain ⟨fd, F⟩ := T.F__law_wakes
  exact ⟨fd, [], fl_wakes T F, ⟨.nil, F.bindsN fun _ _ _ _ _ _ us hl => match us, hl with | [_, _], _ => rfl⟩, F.kp⟩
def three (k : Int) (p : Pm) : List Pm := [(p.1, p.2), (p.1 ++ [k], p.2), (p.1, p.2 ++ [k])]
def sheetsL : Nat → List Pm
  | 0 => [([], [])]
  | n + 1 => (sheetsL n).flatMap (three ((n : Int) + 1))
def sheetsB (n : Nat) : Bool := (plainL n).all (fun p => decide (p ∈ sheetsL n)) && (sheetsL n).all (fun p => decide (p ∈ plainL n)) && decide (sheetsL n).Nodup && decide ((sheetsL n).length ≤ 27)
theorem sheets_ok {n : Nat} (h : n ≤ 3) : sheetsB n = true := by
  have : n = 0 ∨ n = 1 ∨ n = 2 ∨ n = 3 := by omega
  rcases this with rfl | rfl | rfl | rfl <;> decide +kernel
theorem sheets_is {n : Nat} (h : n ≤ 3) : (∀ p, p ∈ sheetsL n ↔ p ∈ plainL n) ∧ (sheetsL n).Nodup ∧ (sheetsL n).length ≤ 27 := by
  have := sheets_ok h
  unfold sheetsB at this
  rw [Bool.and_eq_true, Bool.and_eq_true, Bool.and_eq_true, List.all_eq_true, List.all_eq_true, decide_eq_true_eq, decide_eq_true_eq] at this
  exact ⟨fun p => ⟨fun hp => of_decide_eq_true (this.1.1.2 p hp), fun hp => of_decide_eq_true (this.1.1.1 p hp)⟩, this.1.2, this.2⟩
def f_sheetsW : FnA Nat := fnF (fun n => [.d (.int (n : Nat))]) (fun n => n ≤ 3) (fun n => .ls ((sheetsL n).map pmD))
theorem three_len {k : Int} : ∀ l : List Pm, (l.flatMap (three k)).length = 3 * l.length
  | [] => rfl
  | p :: l => by
    rw [List.flatMap_cons, List.length_append, three_len l, List.length_cons]
    show 3 + 3 * l.length = _
    omega
def N_sheets : List Str := ["places", "sheets", "place", "longer", "left", "right"]
theorem sc_sheets : FnScope N_sheets ["places"] (defScope (top 60)) := ⟨rfl, rfl, rfl, by decide +kernel, rfl, by decide +kernel, by decide +kernel⟩
theorem fl_sheets (T : Tx K mg) {fd : FuncData} (F : FnP K "_law_sheets" 60 [] (He.ga K "_law_sheets") fd) : FnOk P w K mg base CX0 1 (He.ga K "_law_sheets") fd ["places"] (spA K f_sheetsW) := by
  refine fnA_ok F sc_sheets (fun _ => rfl) (fun cdv A ou s H E hr => ⟨_, (PSs.nox (pss_cons (ps_set (i := 1) sc_sheets.nd rfl (Or.inl rfl) (pe_lst (pa_cons (pe_tup (pa_cons (pe_tup pa_nil) (pa_cons (pe_tup pa_nil) pa_nil))) pa_nil)))
      (pss_cons (ps_for PassesOwn.never rfl (pi_range2 (by rfl) T.b_range (pa_cons pe_int (pa_cons (pe_op op_add (pv 0) pe_int) pa_nil))) (pg_name (i := 2) sc_sheets.nd rfl (Or.inl rfl))
      (pss_cons (ps_set (i := 3) sc_sheets.nd rfl (Or.inl rfl) (pe_lst pa_nil))
      (pss_cons (ps_for PassesOwn.never rfl (pi_sq (pv 1)) (pg_tup (by rfl) (pgs_cons (pg_name (i := 4) sc_sheets.nd rfl (Or.inl rfl)) (pgs_cons (pg_name (i := 5) sc_sheets.nd rfl (Or.inl rfl)) pgs_nil)))
      (pss_one (ps_expr (pe_bm PySem.F.plainAttrs_list PySem.F.slot_list_extend PySem.F.type_list_extend mt_extend (pv 3) (pa_cons (pe_lst (pa_cons (pe_tup (pa_cons (pv 4) (pa_cons (pv 5) pa_nil))) (pa_cons (pe_tup (pa_cons (pe_op (cataK K rfl) (pv 4) (pe_tup (pa_cons (pv 2) pa_nil))) (pa_cons (pv 5) pa_nil))) (pa_cons (pe_tup (pa_cons (pv 4) (pa_cons (pe_op (cataK K rfl) (pv 5) (pe_tup (pa_cons (pv 2) pa_nil))) pa_nil))) pa_nil)))) pa_nil)))))
      (pss_one (ps_set (i := 1) sc_sheets.nd rfl (Or.inl rfl) (pv 3))))))
      (pss_one (ps_ret (pv 1)))))), ?_⟩)
  rintro a bx X sb pre hE
  show WS K bx X H _ [some _, none, none, none, none, none] _ _ _ _
  replace pre : a ≤ 3 := pre
  refine ws_seq (ws_asg (w_of_wf (wf_lst (wa_cons (w_tup (wa_cons (w_tup (wa_nil ⟨[], rfl, lek rfl, wa_cons (w_tup (wa_nil ⟨[], rfl, lek rfl, wa_nil ⟨[.tuple [], .tuple []], rfl, lek rfl, wa_nil ⟨[pmD ([], [])], rfl, lek rfl, rfl, ?_⟩⟩⟩))⟩))))))))
  refine ws_forS [2] [2, 3, 4, 5] (wi_r2 (wa_cons (w_int (wa_cons (w_add (w_var rfl (w_int ⟨(a : Nat), 1, rfl, rfl, wa_nil ⟨1, (a : Int) + 1, rfl, ⟨by decide, by decide, by omega, by omega⟩, fun i ρ' => ρ' = [some (.d (.int (a : Nat))), some (.ls ((sheetsL i).map pmD)), none, none, none, none], rfl, ?_, ?_⟩⟩)))))))
  · rintro i z ρ' hz rfl
    rw [List.getElem?_map] at hz
    obtain ⟨i2, hi, rfl⟩ := Option.map_eq_some_iff.mp hz
    have il : i < a := by
      have := (List.getElem?_eq_some_iff.mp hi).1
      rw [List.length_range] at this
      omega
    have ei : i2 = i := by
      have := (List.getElem?_eq_some_iff.mp hi).2
      rw [List.getElem_range] at this
      exact this.symm
    subst ei
    have l27 := (sheets_is (n := i2) (by omega)).2.2
    have fw : ∀ p ∈ sheetsL i2, p.1.length ≤ i2 ∧ p.2.length ≤ i2 := fun p hp => plainL_few i2 p ((sheets_is (n := i2) (by omega)).1 p |>.mp hp)
    refine wg_name (by decide) ?_
    refine ws_seq (ws_own (wf_lst (wa_nil ⟨[], rfl, lek rfl, fun D2 hD2 => ?_⟩)))
    refine ws_forS [4, 5] [4, 5] (wi_sq (w_var rfl ⟨_, (sheetsL i2).map pmD, rfl, rfl, fun j ρ2 => ρ2 = [some (.d (.int (a : Nat))), some (.ls ((sheetsL i2).map pmD)), some (.d (.int (1 + (i2 : Nat)))), some (.o D2 ((((sheetsL i2).take j).flatMap (three ((i2 : Int) + 1))).map pmD)), none, none], rfl, ?_, ?_⟩))
    · rintro j y ρ2 hy rfl
      rw [List.getElem?_map] at hy
      obtain ⟨p, hp, rfl⟩ := Option.map_eq_some_iff.mp hy
      have fp := fw p (List.mem_of_getElem? hp)
      have tl : ((sheetsL i2).take j).length ≤ 27 := by rw [List.length_take]; omega
      refine wg_tup rfl rfl (wgs_cons (wg_name (by decide) (wgs_cons (wg_name (by decide) (wgs_nil ?_)))))
      refine ws_extend rfl (only1 rfl) (wa_cons (w_of_wf (wf_lst (wa_cons (w_tup (wa_cons (w_var rfl (wa_cons (w_var rfl (wa_nil ⟨[.tuple (p.1.map PyData.int), .tuple (p.2.map PyData.int)], rfl, lek rfl, ?_⟩))))))))))
      refine wa_cons (w_tup (wa_cons (w_catT (w_var rfl (w_tup (wa_cons (w_var rfl (wa_nil ⟨[.int (1 + (i2 : Nat))], rfl, lek rfl, p.1.map PyData.int, [.int (1 + (i2 : Nat))], rfl, rfl, by rw [List.length_map]; show p.1.length + 1 ≤ 100000; omega, wa_cons (w_var rfl (wa_nil ⟨_, rfl, lek rfl, ?_⟩))⟩))))))))
      refine wa_cons (w_tup (wa_cons (w_var rfl (wa_cons (w_catT (w_var rfl (w_tup (wa_cons (w_var rfl (wa_nil ⟨[.int (1 + (i2 : Nat))], rfl, lek rfl, p.2.map PyData.int, [.int (1 + (i2 : Nat))], rfl, rfl, by rw [List.length_map]; show p.2.length + 1 ≤ 100000; omega, wa_nil ⟨_, rfl, lek rfl, ?_⟩⟩))))))))))
      refine wa_nil ⟨_, rfl, lek rfl, wa_nil ⟨_, rfl, ?_, ?_⟩⟩
      · rw [List.length_map, three_len]
        show _ + 3 ≤ 100000
        omega
      · have e : (((sheetsL i2).take (j + 1)).flatMap (three ((i2 : Int) + 1))).map pmD = (((sheetsL i2).take j).flatMap (three ((i2 : Int) + 1))).map pmD ++ [pmD p, PyData.tuple [.tuple (p.1.map PyData.int ++ [.int (1 + (i2 : Nat))]), .tuple (p.2.map PyData.int)], PyData.tuple [.tuple (p.1.map PyData.int), .tuple (p.2.map PyData.int ++ [.int (1 + (i2 : Nat))])]] := by
          rw [List.take_succ, hp, List.flatMap_append, List.map_append]
          show _ ++ [pmD p, pmD (p.1 ++ [(i2 : Int) + 1], p.2), pmD (p.1, p.2 ++ [(i2 : Int) + 1])] = _
          rw [Int.add_comm 1 (i2 : Int)]
          unfold pmD
          rw [List.map_append, List.map_append]
          rfl
        show [_, _, _, some (Dat.o D2 _), none, none] = [_, _, _, some (Dat.o D2 _), none, none]
        rw [e]
        rfl
    · rintro ρ2 rfl
      rw [List.length_map, List.take_length]
      exact ws_frz (i := 3) rfl (only1 rfl) (ws_asg (w_var rfl ⟨rfl, rfl⟩))
  · rintro ρ' rfl
    have el : ((List.range ((a : Int) + 1 - 1).toNat).map fun i => PyData.int (1 + (i : Nat))).length = a := by
      rw [List.length_map, List.length_range]
      omega
    rw [el]
    exact ws_ret sb (w_var rfl ⟨rfl, rfl⟩)
theorem gl_sheets (T : Tx K mg) : Gd P w K mg base CX0 1 "_law_sheets" ["places"] [] f_sheetsW := by
  obtain ⟨fd, F⟩ := T.F__law_sheets
  exact ⟨fd, [], fl_sheets T F, ⟨.nil, F.bindsN fun _ _ _ _ _ _ us hl => match us, hl with | [_], _ => rfl⟩, F.kp⟩
def f_withinW : FnA (Pm × Pm) := fnF (fun a => [.d (pmD a.1), .d (pmD a.2)]) (fun a => a.1.1.length ≤ 100 ∧ a.1.2.length ≤ 100) (fun a => .d (.bool (withinB a.1 a.2)))
def N_within : List Str := ["one", "other", "place"]
theorem sc_within : FnScope N_within ["one", "other"] (defScope (top 61)) := ⟨rfl, rfl, rfl, by decide +kernel, rfl, by decide +kernel, by decide +kernel⟩
theorem fl_within (T : Tx K mg) {fd : FuncData} (F : FnP K "_law_within" 61 [] (He.ga K "_law_within") fd) : FnOk P w K mg base CX0 1 (He.ga K "_law_within") fd ["one", "other"] (spA K f_withinW) := by
  refine fnA_ok F sc_within (fun _ => rfl) (fun cdv A ou s H E hr => ⟨_, (PSs.nox (pss_one (ps_ret (pe_not (pe_cmpR (inK K rfl) pe_bl (pe_op op_cat (pe_lc (own := [("place", 2)]) (g := gName 2) (tt := tYes) rfl sc_within.nd (pi_sq (pe_ix ix_sq (pv 0) pe_int (fun _ _ => rfl))) (blkOk_by (N := N_within) (sc := defScope (top 61)) (by decide +kernel)) (fun _ _ _ _ _ => (pg_name (i := 2) sc_within.nd rfl (by first | exact Or.inl rfl | exact Or.inr rfl))) (fun _ _ _ _ _ => pts_nil) (fun _ _ _ _ _ => (pe_cmpR (inK K rfl) (pv 2) (pe_ix (ixK K rfl) (pv 1) pe_int (fun _ _ => rfl)) rfl))) (pe_lc (own := [("place", 2)]) (g := gName 2) (tt := tYes) rfl sc_within.nd (pi_sq (pe_ix ix_sq (pv 0) pe_int (fun _ _ => rfl))) (blkOk_by (N := N_within) (sc := defScope (top 61)) (by decide +kernel)) (fun _ _ _ _ _ => (pg_name (i := 2) sc_within.nd rfl (by first | exact Or.inl rfl | exact Or.inr rfl))) (fun _ _ _ _ _ => pts_nil) (fun _ _ _ _ _ => (pe_cmpR (inK K rfl) (pv 2) (pe_ix (ixK K rfl) (pv 1) pe_int (fun _ _ => rfl)) rfl)))) rfl))))), ?_⟩)
  rintro a bx X sb pre hE
  show WS K bx X H _ [some _, some _, none] _ _ _ _
  obtain ⟨p, q⟩ := a
  obtain ⟨l1, l2⟩ := pre
  replace l1 : p.1.length ≤ 100 := l1
  replace l2 : p.2.length ≤ 100 := l2
  refine ws_ret sb (w_notV (w_inB (w_bl (w_of_wf (wf_cat (w_of_wf (wf_map (wi_sq (w_ix (w_var rfl (w_int ⟨[.tuple (p.1.map PyData.int), .tuple (p.2.map PyData.int)], 0, .tuple (p.1.map PyData.int), rfl, rfl, rfl, _, p.1.map PyData.int, rfl, rfl, few l1, Int, p.1, PyData.int, fun x => .bool (decide (x ∈ q.1)), rfl, fun x hx => wg_name (by decide) ?_, ?_⟩)))))))))))
  · exact w_inI (w_var rfl (w_ix (w_var rfl (w_int ⟨[.tuple (q.1.map PyData.int), .tuple (q.2.map PyData.int)], 0, .tuple (q.1.map PyData.int), rfl, rfl, rfl, x, q.1, rfl, rfl, rfl⟩))))
  refine w_of_wf (wf_map (wi_sq (w_ix (w_var rfl (w_int ⟨[.tuple (p.1.map PyData.int), .tuple (p.2.map PyData.int)], 1, .tuple (p.2.map PyData.int), rfl, rfl, rfl, _, p.2.map PyData.int, rfl, rfl, few l2, Int, p.2, PyData.int, fun x => .bool (decide (x ∈ q.2)), rfl, fun x hx => wg_name (by decide) ?_, ?_⟩)))))
  · exact w_inI (w_var rfl (w_ix (w_var rfl (w_int ⟨[.tuple (q.1.map PyData.int), .tuple (q.2.map PyData.int)], 1, .tuple (q.2.map PyData.int), rfl, rfl, rfl, x, q.2, rfl, rfl, rfl⟩))))
  refine ⟨_, _, rfl, rfl, by simp only [List.length_map]; omega, false, (p.1.map fun x => decide (x ∈ q.1)) ++ (p.2.map fun x => decide (x ∈ q.2)), rfl, by rw [List.map_append, List.map_map, List.map_map]; rfl, _, rfl, rfl, ?_⟩
  show Dat.d (.bool _) = Dat.d (.bool (withinB p q))
  rw [nin_false, List.all_append, List.all_map, List.all_map]
  rfl
theorem gl_within (T : Tx K mg) : Gd P w K mg base CX0 1 "_law_within" ["one", "other"] [] f_withinW := by
  obtain ⟨fd, F⟩ := T.F__law_within
  exact ⟨fd, [], fl_within T F, ⟨.nil, F.bindsN fun _ _ _ _ _ _ us hl => match us, hl with | [_, _], _ => rfl⟩, F.kp⟩
def f_awakeW : FnA (Nat × List Pm × Bool) := fnF (fun a => [.d (.int (a.1 : Nat)), .d (seqOf a.2.2 (a.2.1.map pmD))]) (fun a => a.1 ≤ 3 ∧ (∀ p ∈ a.2.1, (∀ x ∈ p.1 ++ p.2, 1 ≤ x ∧ x ≤ (a.1 : Int)) ∧ p.1.length ≤ 100 ∧ p.2.length ≤ 100) ∧ a.2.1.length ≤ 200) (fun a => .ls (((rowsL a.1).filter fun r => a.2.1.all (holdB r)).map rowD))
def N_awake : List Str := ["places", "premises", "row"]
theorem sc_awake : FnScope N_awake ["places", "premises"] (defScope (top 63)) := ⟨rfl, rfl, rfl, by decide +kernel, rfl, by decide +kernel, by decide +kernel⟩
theorem fl_awake (T : Tx K mg) {fd : FuncData} (F : FnP K "_law_awake" 63 [] (He.ga K "_law_awake") fd) : FnOk P w K mg base CX0 3 (He.ga K "_law_awake") fd ["places", "premises"] (spA K f_awakeW) := by
  refine fnA_ok F sc_awake (fun _ => rfl) (fun cdv A ou s H E hr => ⟨_, (PSs.nox (pss_one (ps_ret (pe_lc (own := [("row", 2)]) (g := gName 2) rfl sc_awake.nd (pi_sq (pe_gd (gl_rows T) (hr.mono (by decide)) rfl T.g__law_rows pass0 (pa_cons (pv 0) pa_nil))) (blkOk_by (N := N_awake) (sc := defScope (top 63)) (by decide +kernel)) (fun _ _ _ _ _ => (pg_name (i := 2) sc_awake.nd rfl (by first | exact Or.inl rfl | exact Or.inr rfl))) (fun _ _ _ _ _ => (pts_one (pt_val (pe_gd (gl_wakes T) (hr.mono (by decide)) rfl T.g__law_wakes pass0 (pa_cons (pv 1) (pa_cons (pv 2) pa_nil)))))) (fun _ _ _ _ _ => (pv 2)))))), ?_⟩)
  rintro a bx X sb pre hE
  show WS K bx X H _ [some _, some _, none] _ _ _ _
  obtain ⟨n, ps, b⟩ := a
  obtain ⟨n3, hp, hl⟩ := pre
  replace n3 : n ≤ 3 := n3
  replace hp : ∀ p ∈ ps, (∀ x ∈ p.1 ++ p.2, 1 ≤ x ∧ x ≤ (n : Int)) ∧ p.1.length ≤ 100 ∧ p.2.length ≤ 100 := hp
  refine ws_ret sb (w_of_wf (wf_lc (wi_sq (w_callF (wa_cons (w_var rfl (wa_nil ⟨n, rfl, rfl, n3, _, (rowsL n).map rowD, rfl, rfl, few (n := 8) (by rw [rowsL_len]; exact pow2_8 n3), List Int, rowsL n, rowD, fun r => ps.all (holdB r), rowD, rfl, fun r hr2 => wg_name (by decide) (wt_b (w_callF (wa_cons (w_var rfl (wa_cons (w_var rfl (wa_nil ⟨(ps, r, b), rfl, rfl, ⟨fun p h => ⟨fun x hx => ?_, (hp p h).2⟩, hl⟩, _, rfl, rfl, fun _ => w_var rfl rfl⟩))))))), ⟨rfl, rfl⟩⟩)))))))
  have := (hp p h).1 x hx
  have e := (rowsL_row n r hr2).1
  show 1 ≤ x ∧ x ≤ (r.length : Int)
  omega
theorem gl_awake (T : Tx K mg) : Gd P w K mg base CX0 3 "_law_awake" ["places", "premises"] [] f_awakeW := by
  obtain ⟨fd, F⟩ := T.F__law_awake
  exact ⟨fd, [], fl_awake T F, ⟨.nil, F.bindsN fun _ _ _ _ _ _ us hl => match us, hl with | [_, _], _ => rfl⟩, F.kp⟩
end
end K03

set_option Elab.async false
set_option linter.all false
set_option pp.maxSteps 1500
set_option pp.deepTerms false
set_option maxRecDepth 100000
set_option maxHeartbeats 8000000
namespace K03
open PySem PySem.Spec PyProof.Rows L2 Say LamX
/-- what `_law_error` makes of a work -/
def hrd (K : PySem.W.Frag) : Heard := ⟨fun _ => .none, fun e y => (∃ k1 : PyData, e = ⟨He.ga K "InvalidPremises", [("at", k1)]⟩ ∧ y = .tuple [.str "premises", k1]) ∨ (∃ k1 : PyData, e = ⟨He.ga K "InvalidRow", [("at", k1)]⟩ ∧ y = .tuple [.str "row", k1]) ∨ (∃ k1 : PyData, e = ⟨He.ga K "InvalidSize", [("word", k1)]⟩ ∧ y = .tuple [.str "size", k1])⟩
def N_error : List Str := ["work", "e"]
theorem sc_error : FnScope N_error ["work"] (defScope (top 65)) := ⟨rfl, rfl, rfl, by decide +kernel, rfl, by decide +kernel, by decide +kernel⟩
theorem gives_error {K : PySem.W.Frag} {mg : Str → Option Value} (T : Tx K mg) {X : Cx} (hK : X.K = K) (hm : X.mg = mg) : GivesS X N_error "_law_error" (defScope (top 65)) (He.ga K "_law_error") (defBody (top 65)) "work" (HeardT K (hrd K)) := by
  subst hK hm
  intro cdg f il s H Q tl mono act hil ht
  refine ⟨_, PSs.nox (pss_cons (ps_try_cl rfl rfl sc_error.nd LamX.takes0
      (ClOk.as (i := 1) ⟨rfl, by decide, .inl T.c_InvalidPremises⟩ rfl rfl (fun a oe cls d pn hz hf => pss_one (ps_ret (pe_tup (pa_cons pe_str (pa_cons (pe_xf T.E_InvalidPremises.xf T.n_InvalidPremises_at hz hf (pv 1)) pa_nil)))))
      (ClOk.as (i := 1) ⟨rfl, by decide, .inl T.c_InvalidRow⟩ rfl rfl (fun a oe cls d pn hz hf => pss_one (ps_ret (pe_tup (pa_cons pe_str (pa_cons (pe_xf T.E_InvalidRow.xf T.n_InvalidRow_at hz hf (pv 1)) pa_nil)))))
      (ClOk.as (i := 1) ⟨rfl, by decide, .inl T.c_InvalidSize⟩ rfl rfl (fun a oe cls d pn hz hf => pss_one (ps_ret (pe_tup (pa_cons pe_str (pa_cons (pe_xf T.E_InvalidSize.xf T.n_InvalidSize_word hz hf (pv 1)) pa_nil)))))
      .nil)))
      (fun W pn xe tk _ => pss_one (ps_expr (act W pn xe _ _ tk))))
    (pss_one (ps_ret pe_non))), ?_⟩
  obtain ⟨bx, X2, Φ, e, k, go⟩ := ht
  dsimp only [gName, tSeq, tAsg]
  have lay : ∀ {H' : Hp} {p : Addr} {vs : List V} {ys : List PyData}, Fr bx H H' → H' p = none → DpAll X.K (core X2 H') vs ys → Φ (.d (.tuple ys)) → Q (.ref p) (upd H' p (.tup vs)) := fun {H' p vs ys} fr np d q => by
    have e2 := e.go fr
    exact k _ (.d (.tuple ys)) _ (fr.new np) (ok_d (Dp.tup (SqT.of (core_of (e2.no np) upd_same fun ps z => by cases z)) (dpAll_mono (core_fr (bx := bx) (.of (same_new np)) e.sub) _ _ d))) q
  refine ⟨rfl, hil, go _ _ (fun ex y hy q => ?_) fun v y H' fr dp q => k .non (.d .none) H' fr (ok_d Dp.non) q⟩
  rcases hy with ⟨k1, rfl, rfl⟩ | ⟨k1, rfl, rfl⟩ | ⟨k1, rfl, rfl⟩
  · intro H' dd vs fr dv hd
    cases dv with
    | cons d1 r1 =>
      cases r1
      refine cl_yes T.m_InvalidPremises_InvalidPremises fun a na => ?_
      exact ⟨_, rfl, rfl, rfl, dd, _, _, rfl, hd, (by rfl), lek rfl, fun t nt => lay fr nt (.cons (.str _) (.cons d1 .nil)) q⟩
  · intro H' dd vs fr dv hd
    cases dv with
    | cons d1 r1 =>
      cases r1
      refine ⟨false, T.m_InvalidRow_InvalidPremises, (fun z => nomatch z), fun _ => cl_yes T.m_InvalidRow_InvalidRow fun a na => ?_⟩
      exact ⟨_, rfl, rfl, rfl, dd, _, _, rfl, hd, (by rfl), lek rfl, fun t nt => lay fr nt (.cons (.str _) (.cons d1 .nil)) q⟩
  · intro H' dd vs fr dv hd
    cases dv with
    | cons d1 r1 =>
      cases r1
      refine ⟨false, T.m_InvalidSize_InvalidPremises, (fun z => nomatch z), fun _ => ⟨false, T.m_InvalidSize_InvalidRow, (fun z => nomatch z), fun _ => cl_yes T.m_InvalidSize_InvalidSize fun a na => ?_⟩⟩
      exact ⟨_, rfl, rfl, rfl, dd, _, _, rfl, hd, (by rfl), lek rfl, fun t nt => lay fr nt (.cons (.str _) (.cons d1 .nil)) q⟩
end K03

set_option Elab.async false
set_option linter.all false
set_option pp.maxSteps 1500
set_option pp.deepTerms false
set_option maxRecDepth 100000
set_option maxHeartbeats 8000000
namespace K03
open PySem PySem.Spec PyProof.Rows L2 Say
section
variable {P : Program} {w : World} {K : PySem.W.Frag} {mg : Str → Option Value} {base : Heap}
noncomputable def f_primeW : FnA (Nat × List (List Int) × Bool) := fnF (fun a => [.d (.int (a.1 : Nat)), .d (seqOf a.2.2 (a.2.1.map rowD))]) (fun a => a.1 ≤ 3 ∧ (∀ r ∈ a.2.1, r.length = a.1) ∧ a.2.1.length ≤ 1000) (fun a => .d (.tuple ((primeL a.1 a.2.1).map pmD)))
theorem eqvAll_pms : ∀ ps qs : List Pm, PyData.eqvAll (ps.map pmD) (qs.map pmD) = decide (ps = qs)
  | [], [] => rfl
  | [], q :: qs => rfl
  | p :: ps, [] => rfl
  | p :: ps, q :: qs => by
    show (PyData.eqv (pmD p) (pmD q) && PyData.eqvAll (ps.map pmD) (qs.map pmD)) = _
    rw [eqvAll_pms ps qs, eqv_pm]
    by_cases h1 : p = q <;> by_cases h2 : ps = qs <;> simp [h1, h2]
theorem filt_one {F : List Pm} (nd : F.Nodup) {e : Pm} (he : e ∈ F) : (F.filter fun o => withinB o e) = [e] ↔ ∀ o ∈ F, withinB o e = true → o = e := by
  constructor
  · intro h o ho w
    have : o ∈ F.filter fun o => withinB o e := List.mem_filter.mpr ⟨ho, w⟩
    rw [h] at this
    exact List.mem_singleton.mp this
  · intro h
    have nd2 : (F.filter fun o => withinB o e).Nodup := nd.filter _
    have m : ∀ o, o ∈ (F.filter fun o => withinB o e) ↔ o = e := fun o => by
      rw [List.mem_filter]
      exact ⟨fun z => h o z.1 z.2, fun z => by rw [z]; exact ⟨he, within_refl e⟩⟩
    cases c : F.filter fun o => withinB o e with
    | nil =>
      have := (m e).mpr rfl
      rw [c] at this
      cases this
    | cons a r =>
      rw [c] at nd2 m
      have ea : a = e := (m a).mp List.mem_cons_self
      cases r with
      | nil => rw [ea]
      | cons b s =>
        have eb : b = e := (m b).mp (List.mem_cons_of_mem _ List.mem_cons_self)
        rw [List.nodup_cons] at nd2
        exact absurd (by rw [ea, eb]; exact List.mem_cons_self) nd2.1
def leastB (F : List Pm) (e : Pm) : Bool := decide ((F.filter fun o => withinB o e) = [e])
theorem law_least {n : Nat} (h : n ≤ 3) (rows : List (List Int)) : sortP (((sheetsL n).filter fun e => rows.all fun r => holdB r e).filter (leastB ((sheetsL n).filter fun e => rows.all fun r => holdB r e))) = primeL n rows := by
  obtain ⟨s1, s2, s3⟩ := sheets_is h
  refine sortP_congr fun p => ?_
  have memF : ∀ q, q ∈ ((sheetsL n).filter fun e => rows.all fun r => holdB r e) ↔ q ∈ ((plainL n).filter fun e => rows.all fun r => holdB r e) := fun q => by
    rw [List.mem_filter, List.mem_filter, s1 q]
  rw [List.mem_filter, mem_leastL]
  have nd := s2.filter (fun e => rows.all fun r => holdB r e)
  constructor
  · rintro ⟨h1, h2⟩
    have h3 := (filt_one nd h1).mp (of_decide_eq_true h2)
    exact ⟨(memF p).mp h1, fun o ho w => h3 o ((memF o).mpr ho) w⟩
  · rintro ⟨h1, h2⟩
    have h1' := (memF p).mpr h1
    exact ⟨h1', decide_eq_true ((filt_one nd h1').mpr fun o ho w => h2 o ((memF o).mp ho) w)⟩
def N_prime : List Str := ["places", "rows", "found", "least", "one", "sheet", "row", "other"]
theorem sc_prime : FnScope N_prime ["places", "rows"] (defScope (top 62)) := ⟨rfl, rfl, rfl, by decide +kernel, rfl, by decide +kernel, by decide +kernel⟩
theorem fl_prime (T : Tx K mg) {fd : FuncData} (F : FnP K "_law_prime" 62 [] (He.ga K "_law_prime") fd) : FnOk P w K mg base CX0 2 (He.ga K "_law_prime") fd ["places", "rows"] (spA K f_primeW) := by
  refine fnA_ok F sc_prime (fun _ => rfl) (fun cdv A ou s H E hr => have hun := room65 hr; ⟨_, (PSs.nox (pss_cons (ps_setLc (i := 2) (own := [("sheet", 5)]) (g := gName 5) rfl sc_prime.nd rfl rfl (sw_true rfl rfl rfl (by decide +kernel)) (pi_sq (pe_gd (gl_sheets T) (hr.mono (by decide)) rfl T.g__law_sheets pass0 (pa_cons (pv 0) pa_nil))) (blkOk_by (N := N_prime) (sc := defScope (top 62)) (by decide +kernel)) (fun _ _ _ _ _ => (pg_name (i := 5) sc_prime.nd rfl (by first | exact Or.inl rfl | exact Or.inr rfl))) (fun _ _ _ _ _ => (pts_one (pt_not (pt_cmpR (inK K rfl) pe_bl (pe_lc (own := [("row", 6)]) (g := gName 6) (tt := tYes) rfl sc_prime.nd (pi_sqK K rfl (pv 1)) (blkOk_by (N := N_prime) (sc := ({ kind := .function, names := [(".0", .local), ("sheet", .cell), ("rows", .cell)], isGenerator := false, isCoroutine := false } : Scope)) (by decide +kernel)) (fun _ _ _ _ _ => (pg_name (i := 6) sc_prime.nd rfl (by first | exact Or.inl rfl | exact Or.inr rfl))) (fun _ _ _ _ _ => pts_nil) (fun _ _ _ _ _ => (pe_gd (gl_holds T) (hr.mono (by decide)) rfl T.g__law_holds pass0 (pa_cons (pv 5) (pa_cons (pv 6) pa_nil))))) rfl)))) (fun _ _ _ _ _ => (pv 5)))
      (pss_cons (ps_set (i := 3) sc_prime.nd rfl (Or.inl rfl) (pe_lst pa_nil))
      (pss_cons (ps_for PassesOwn.never rfl (pi_sq (pv 2)) (pg_name (i := 4) sc_prime.nd rfl (Or.inr rfl))
      (pss_one (ps_set (i := 3) sc_prime.nd rfl (Or.inl rfl) (pe_op op_cat (pv 3) (pe_ifExp (pt_cmpR (show OpR _ (compareOp .Eq) (rEqD K) from op_eqD (Nat.lt_of_succ_lt hun)) (pe_lc (own := [("other", 7)]) (g := gName 7) rfl sc_prime.nd (pi_sq (pv 2)) (blkOk_by (N := N_prime) (sc := defScope (top 62)) (by decide +kernel)) (fun _ _ _ _ _ => (pg_name (i := 7) sc_prime.nd rfl (by first | exact Or.inl rfl | exact Or.inr rfl))) (fun _ _ _ _ _ => (pts_one (pt_val (pe_gd (gl_within T) (hr.mono (by decide)) rfl T.g__law_within pass0 (pa_cons (pv 7) (pa_cons (pv 4) pa_nil)))))) (fun _ _ _ _ _ => (pv 7))) (pe_lst (pa_cons (pv 4) pa_nil)) (nomark _)) (pe_lst (pa_cons (pv 4) pa_nil)) (pe_lst pa_nil))))))
      (pss_one (ps_ret (pe_callTy (show CallR _ _ (rTup K) from call_tuple_of) (by rfl) T.b_tuple (by decide +kernel) (pa_cons (pe_callB (show CallR _ _ (rSortLN K) from cr_sortLN (unit64 hun)) (by rfl) T.b_sorted (by decide +kernel) (pa_cons (pv 3) pa_nil)) pa_nil)))))))), ?_⟩)
  rintro a bx X sb pre hE
  show WS K bx X H _ [some _, some _, none, none, none, none, none, none] _ _ _ _
  obtain ⟨n, rows, b⟩ := a
  obtain ⟨n3, hrow, hl⟩ := pre
  replace n3 : n ≤ 3 := n3
  replace hrow : ∀ r ∈ rows, r.length = n := hrow
  replace hl : rows.length ≤ 1000 := hl
  obtain ⟨s1, s2, s3⟩ := sheets_is n3
  have fw : ∀ p ∈ sheetsL n, (∀ x ∈ p.1 ++ p.2, 1 ≤ x ∧ x ≤ (n : Int)) ∧ p.1.length ≤ 100 ∧ p.2.length ≤ 100 := fun p hp => by
    have a := plainL_is n p ((s1 p).mp hp)
    have c := plainL_few n p ((s1 p).mp hp)
    exact ⟨a.bd, by omega, by omega⟩
  refine ws_seq (ws_asg (w_of_wf (wf_lc (wi_sq (w_callF (wa_cons (w_var rfl (wa_nil ⟨n, rfl, rfl, n3, _, (sheetsL n).map pmD, rfl, rfl, few s3, Pm, sheetsL n, pmD, fun e => rows.all fun r => holdB r e, pmD, rfl, fun e he => wg_name (by decide) (wt_not (wt_test (w_inB (w_bl (w_of_wf (wf_map (wi_sq (w_var rfl ⟨_, rows.map rowD, rfl, seqOf_seq b _, few hl, List Int, rows, rowD, fun r => .bool (holdB r e), rfl, fun r hr2 => wg_name (by decide) (w_callF (wa_cons (w_var rfl (wa_cons (w_var rfl (wa_nil ⟨(e, r), rfl, rfl, ⟨fun x hx => ?_, (fw e he).2⟩, rfl⟩)))))), ?_⟩)))))))), ?_⟩))))))))
  · have e1 := (fw e he).1 x hx
    have e2 := hrow r hr2
    show 1 ≤ x ∧ x ≤ (r.length : Int)
    omega
  · refine ⟨false, rows.map fun r => holdB r e, rfl, by rw [List.map_map]; rfl, _, rfl, ?_, fun _ => w_var rfl rfl⟩
    rw [nin_false, List.all_map]
    rfl
  generalize hF : ((sheetsL n).filter fun e => rows.all fun r => holdB r e) = F
  have fF : ∀ p ∈ F, (∀ x ∈ p.1 ++ p.2, 1 ≤ x ∧ x ≤ (n : Int)) ∧ p.1.length ≤ 100 ∧ p.2.length ≤ 100 := fun p hp => fw p (by rw [← hF] at hp; exact (List.mem_filter.mp hp).1)
  have lF : F.length ≤ 27 := by
    rw [← hF]
    exact Nat.le_trans (List.length_filter_le _ _) s3
  have ndF : F.Nodup := by
    rw [← hF]
    exact s2.filter _
  refine ⟨rfl, ws_seq (ws_asg (w_of_wf (wf_lst (wa_nil ⟨[], rfl, lek rfl, rfl, ?_⟩))))⟩
  refine ws_forS [4] [4, 5, 6, 7] (wi_sq (w_var rfl ⟨_, F.map pmD, rfl, rfl, fun i ρ' => ρ' = [some (.d (.int (n : Nat))), some (.d (seqOf b (rows.map rowD))), some (.ls (F.map pmD)), some (.ls (((F.take i).filter (leastB F)).map pmD)), none, none, none, none], rfl, ?_, ?_⟩))
  · rintro i z ρ' hz rfl
    rw [List.getElem?_map] at hz
    obtain ⟨e, he, rfl⟩ := Option.map_eq_some_iff.mp hz
    have hm := List.mem_of_getElem? he
    refine wg_name (by decide) ?_
    have ltk : ((F.take i).filter (leastB F)).length ≤ 27 := by
      refine Nat.le_trans (List.length_filter_le _ _) ?_
      rw [List.length_take]
      omega
    have fin : ∀ c : Bool, leastB F e = c → (((F.take i).filter (leastB F)).map pmD) ++ (if c = true then [pmD e] else []) = (((F.take (i + 1)).filter (leastB F)).map pmD) := fun c hc => by
      rw [List.take_succ, he, List.filter_append, List.map_append]
      congr 1
      show _ = ([e].filter (leastB F)).map pmD
      rw [List.filter_cons, hc]
      cases c <;> rfl
    refine ws_asg (w_of_wf (wf_cat (w_var rfl (w_if (wt_test (w_eqD (w_of_wf (wf_lc (wi_sq (w_var rfl ⟨_, F.map pmD, rfl, rfl, few lF, Pm, F, pmD, fun o => withinB o e, pmD, rfl, fun o ho => wg_name (by decide) (wt_b (w_callF (wa_cons (w_var rfl (wa_cons (w_var rfl (wa_nil ⟨(o, e), rfl, rfl, (fF o ho).2, _, rfl, rfl, fun _ => w_var rfl rfl⟩))))))), ?_⟩))))))))))
    refine w_of_wf (wf_lst (wa_cons (w_var rfl (wa_nil ⟨[pmD e], rfl, lek rfl, _, _, rfl, rfl, pms_shaped (F.filter fun o => withinB o e), pms_shaped [e], ?_⟩))))
    have ev : PyData.eqv (.list ((F.filter fun o => withinB o e).map pmD)) (.list [pmD e]) = leastB F e := by
      show PyData.eqvAll _ ([e].map pmD) = _
      rw [eqvAll_pms]
      rfl
    refine ⟨_, rfl, fun c => w_of_wf (wf_lst (wa_cons (w_var rfl (wa_nil ⟨[pmD e], rfl, lek rfl, _, _, rfl, rfl, by simp only [List.length_map, List.length_cons, List.length_nil]; omega, rfl, ?_⟩)))), fun c => w_of_wf (wf_lst (wa_nil ⟨[], rfl, lek rfl, _, _, rfl, rfl, by simp only [List.length_map, List.length_nil]; omega, rfl, ?_⟩))⟩
    · show [_, _, _, some (Dat.ls _), none, none, none, none] = [_, _, _, some (Dat.ls _), none, none, none, none]
      rw [← fin true (ev.symm.trans c)]
      rfl
    · show [_, _, _, some (Dat.ls _), none, none, none, none] = [_, _, _, some (Dat.ls _), none, none, none, none]
      rw [← fin false (ev.symm.trans c)]
      rfl
  · rintro ρ' rfl
    rw [List.length_map, List.take_length]
    have lL : (F.filter (leastB F)).length ≤ 27 := Nat.le_trans (List.length_filter_le _ _) lF
    refine ws_ret sb (w_tuple (wa_cons (w_of_wf (wf_sortedN (wa_cons (w_var rfl (wa_nil ⟨_, Pm, pmK, F.filter (leastB F), rfl, by rw [pmK_fun], ranked_pm _, ndF.filter _, by omega, wa_nil ⟨_, _, rfl, rfl, rfl, ?_⟩⟩)))))))
    show Dat.d (.tuple ((sortP (F.filter (leastB F))).map fun b => (pmK b).data)) = Dat.d (.tuple ((primeL n rows).map pmD))
    rw [pmK_fun, ← hF, law_least n3]
theorem gl_prime (T : Tx K mg) : Gd P w K mg base CX0 2 "_law_prime" ["places", "rows"] [] f_primeW := by
  obtain ⟨fd, F⟩ := T.F__law_prime
  exact ⟨fd, [], fl_prime T F, ⟨.nil, F.bindsN fun _ _ _ _ _ _ us hl => match us, hl with | [_, _], _ => rfl⟩, F.kp⟩
def lotStep (acc : List (List (List Int))) (r : List Int) : List (List (List Int)) := acc ++ acc.map fun l => l ++ [r]
def lotsL (rs : List (List Int)) : List (List (List Int)) := rs.foldl lotStep [[]]
def lotD (l : List (List Int)) : PyData := .list (l.map rowD)
theorem lots_len : ∀ (rs : List (List Int)) (acc : List (List (List Int))), (rs.foldl lotStep acc).length = 2 ^ rs.length * acc.length
  | [], acc => by simp
  | r :: rs, acc => by
    rw [List.foldl_cons, lots_len rs]
    unfold lotStep
    rw [List.length_append, List.length_map, List.length_cons, Nat.pow_succ]
    rw [Nat.mul_assoc, Nat.two_mul]
theorem lots_few : ∀ (rs : List (List Int)) (acc : List (List (List Int))) (k : Nat), (∀ l ∈ acc, l.length ≤ k) → ∀ l ∈ rs.foldl lotStep acc, l.length ≤ k + rs.length
  | [], acc, k, h, l, hl => h l hl
  | r :: rs, acc, k, h, l, hl => by
    rw [List.foldl_cons] at hl
    have := lots_few rs (lotStep acc r) (k + 1) (fun m hm => by
      unfold lotStep at hm
      rcases List.mem_append.mp hm with hm | hm
      · have := h m hm
        omega
      · obtain ⟨q, hq, rfl⟩ := List.mem_map.mp hm
        have := h q hq
        rw [List.length_append]
        show q.length + 1 ≤ k + 1
        omega) l hl
    rw [List.length_cons]
    omega
def f_lotsW : FnA (List (List Int)) := fnF (fun a => [.d (.list (a.map rowD))]) (fun a => a.length ≤ 4) (fun a => .ls ((lotsL a).map lotD))
def N_lots : List Str := ["rows", "lots", "row", "lot"]
theorem sc_lots : FnScope N_lots ["rows"] (defScope (top 64)) := ⟨rfl, rfl, rfl, by decide +kernel, rfl, by decide +kernel, by decide +kernel⟩
theorem fl_lots (T : Tx K mg) {fd : FuncData} (F : FnP K "_law_lots" 64 [] (He.ga K "_law_lots") fd) : FnOk P w K mg base CX0 1 (He.ga K "_law_lots") fd ["rows"] (spA K f_lotsW) := by
  refine fnA_ok F sc_lots (fun _ => rfl) (fun cdv A ou s H E hr => ⟨_, (PSs.nox (pss_cons (ps_set (i := 1) sc_lots.nd rfl (Or.inl rfl) (pe_lst (pa_cons (pe_lst pa_nil) pa_nil)))
      (pss_cons (ps_for PassesOwn.never rfl (pi_sq (pv 0)) (pg_name (i := 2) sc_lots.nd rfl (Or.inr rfl))
      (pss_one (ps_set (i := 1) sc_lots.nd rfl (Or.inl rfl) (pe_op op_cat (pv 1) (pe_lc (own := [("lot", 3)]) (g := gName 3) (tt := tYes) rfl sc_lots.nd (pi_sq (pv 1)) (blkOk_by (N := N_lots) (sc := defScope (top 64)) (by decide +kernel)) (fun _ _ _ _ _ => (pg_name (i := 3) sc_lots.nd rfl (by first | exact Or.inl rfl | exact Or.inr rfl))) (fun _ _ _ _ _ => pts_nil) (fun _ _ _ _ _ => (pe_op (catsK K rfl) (pv 3) (pe_lst (pa_cons (pv 2) pa_nil)))))))))
      (pss_one (ps_ret (pv 1)))))), ?_⟩)
  rintro a bx X sb pre hE
  show WS K bx X H _ [some _, none, none, none] _ _ _ _
  replace pre : a.length ≤ 4 := pre
  refine ws_seq (ws_asg (w_of_wf (wf_lst (wa_cons (w_of_wf (wf_lst (wa_nil ⟨[], rfl, lek rfl, wa_nil ⟨[.list []], rfl, lek rfl, rfl, ?_⟩⟩)))))))
  refine ws_forS [2] [2, 3] (wi_sq (w_var rfl ⟨_, a.map rowD, rfl, rfl, fun i ρ' => ρ' = [some (.d (.list (a.map rowD))), some (.ls ((lotsL (a.take i)).map lotD)), none, none], rfl, ?_, ?_⟩))
  · rintro i z ρ' hz rfl
    rw [List.getElem?_map] at hz
    obtain ⟨r, hr2, rfl⟩ := Option.map_eq_some_iff.mp hz
    have il := (List.getElem?_eq_some_iff.mp hr2).1
    have ll : (lotsL (a.take i)).length ≤ 16 := by
      unfold lotsL
      rw [lots_len]
      have : (a.take i).length ≤ 4 := by rw [List.length_take]; omega
      have h2 : 2 ^ (a.take i).length ≤ 2 ^ 4 := Nat.pow_le_pow_right (by decide) this
      show _ * 1 ≤ 16
      omega
    have lf : ∀ l ∈ lotsL (a.take i), l.length ≤ 4 := fun l hl => by
      have := lots_few (a.take i) [[]] 0 (fun m hm => by rw [List.mem_singleton.mp hm]; exact Nat.le_refl _) l hl
      rw [List.length_take] at this
      omega
    refine wg_name (by decide) ?_
    refine ws_asg (w_of_wf (wf_cat (w_var rfl (w_of_wf (wf_map (wi_sq (w_var rfl ⟨_, (lotsL (a.take i)).map lotD, rfl, rfl, few ll, List (List Int), lotsL (a.take i), lotD, fun l => lotD (l ++ [r]), rfl, fun l hl => wg_name (by decide) (w_of_wf (wf_catS (w_var rfl (w_of_wf (wf_lst (wa_cons (w_var rfl (wa_nil ⟨[rowD r], rfl, lek rfl, l.map rowD, [rowD r], rfl, rfl, ?_, ?_⟩)))))))), _, _, rfl, rfl, by simp only [List.length_map]; omega, rfl, ?_⟩)))))))
    · have := lf l hl
      simp only [List.length_map, List.length_cons, List.length_nil]
      omega
    · show some (PyData.list (l.map rowD ++ [rowD r])) = some (PyData.list ((l ++ [r]).map rowD))
      rw [List.map_append]
      rfl
    · show [_, some (Dat.ls _), none, none] = [_, some (Dat.ls _), none, none]
      have e : lotsL (a.take (i + 1)) = lotStep (lotsL (a.take i)) r := by
        unfold lotsL
        rw [List.take_succ, hr2, List.foldl_append]
        rfl
      rw [e]
      unfold lotStep
      rw [List.map_append, List.map_map]
      rfl
  · rintro ρ' rfl
    rw [List.length_map, List.take_length]
    exact ws_ret sb (w_var rfl ⟨rfl, rfl⟩)
theorem gl_lots (T : Tx K mg) : Gd P w K mg base CX0 1 "_law_lots" ["rows"] [] f_lotsW := by
  obtain ⟨fd, F⟩ := T.F__law_lots
  exact ⟨fd, [], fl_lots T F, ⟨.nil, F.bindsN fun _ _ _ _ _ _ us hl => match us, hl with | [_], _ => rfl⟩, F.kp⟩
end
end K03

set_option Elab.async false
set_option linter.all false
set_option maxRecDepth 100000
set_option maxHeartbeats 4000000
/-! tuple * int, also 0 and 1 times -/
namespace Say
open PySem PySem.Spec PyProof.Rows L2
open AutoSeq1 (wpAny_loadPart')
theorem tuple_mul1 (l : Addr) (items : Array Value) (n : Nat) (dd : Option Addr) (sl : Array (Option Value)) (u : Tok) :
    Meets (Builtin.«tuple.__mul__» ⟨[.ref l, .int 1 u], []⟩) (fun _ R s => s.heap.get? l = some { cls := .type "tuple", dict := dd, data := .seq items n, slots := sl } ∧ R (.ok (.ret (Value.ref l))) s) :=
  .of_wp fun prog w A R s h => by
    obtain ⟨hp, g, d, tk, os⟩ := s
    obtain ⟨hl, h⟩ := h
    have f1 := AutoSeq1.idx_int
    have c1 : (items.isEmpty || (1 : Int) == 1) = true := by cases items.isEmpty <;> decide
    wp_walk using wpAny_loadPart' hl
    exact ⟨_, rfl, h⟩
theorem tuple_mul0 (l : Addr) (items : Array Value) (n : Nat) (dd : Option Addr) (sl : Array (Option Value)) (u : Tok) (he : items.isEmpty = false) :
    Meets (Builtin.«tuple.__mul__» ⟨[.ref l, .int 0 u], []⟩) (fun _ R s => s.heap.get? l = some { cls := .type "tuple", dict := dd, data := .seq items n, slots := sl } ∧
      R (.ok (.ret (Value.ref s.heap.objs.size))) { s with heap := s.heap.push { cls := Value.type "tuple", data := Data.seq #[] }, toks := s.toks }) :=
  .of_wp fun prog w A R s h => by
    obtain ⟨hp, g, d, tk, os⟩ := s
    obtain ⟨hl, h⟩ := h
    have f1 := AutoSeq1.idx_int
    wp_walk using wpAny_loadPart' hl
    exact ⟨_, rfl, h⟩
def rRepA (K : PySem.W.Frag) : R2 := fun x y H Q => ∃ l k xs, x = .ref l ∧ y = .int k ∧ SqT K H l xs ∧ xs ≠ [] ∧ 0 ≤ k ∧ k ≤ 1000 ∧ xs.length ≤ 1000 ∧ ∀ p H', Same H H' → SqT K H' p (List.replicate k.toNat xs).flatten → Q (.ref p) H'
theorem op_repA {X : Cx} : OpR X (binaryOp .Mult) (rRepA X.K) := by
  intro pins s σ H x y v u Q I rx ry h
  obtain ⟨l, k, xs, rfl, rfl, hT, hne, h1, h2, hz, q⟩ := h
  by_cases c2 : 2 ≤ k
  · exact op_repT pins s σ H _ _ v u Q I rx ry ⟨l, k, xs, rfl, rfl, hT, hne, c2, h2, hz, fun p np => q p _ (same_new np) (SqT.of upd_same)⟩
  cases rx
  obtain ⟨t, rfl⟩ := ry
  obtain ⟨its, r, ⟨⟨cls, dd, data, sl⟩, ho, hc, n, hd⟩, hs⟩ := I.tuple hT
  simp only at hc hd
  subst hc hd
  have hle : its.length = xs.length := r.length.symm
  have hi : its.toArray.isEmpty = false := by
    cases its with
    | nil => exact absurd (List.eq_nil_of_length_eq_zero hle.symm) hne
    | cons a b => rfl
  by_cases c1 : k = 1
  · subst c1
    refine wpAny_binaryOp_repeat_ref (T := "tuple") (U := "int") (by decide) ⟨_, ho, rfl⟩ (fun s' => typeIs_int s' 1 t) noFill_tuple_mul F.fills_int_mul F.slot_int_rmul repeat_tuple F.slot_int_index.lookup
      (call_meets F.slot_int_rmul (typeIs_int s 1 t) F.entry_int_rmul (F.args_int_rmul_2 _ _) (int_rmul_tuple 1 t l its.toArray n dd sl)
        ⟨ho, rfl, ⟨_, ho, rfl⟩, call_meets F.slot_tuple_mul ⟨_, ho, rfl⟩ F.entry_tuple_mul (F.args_tuple_mul_2 _ _) (tuple_mul1 l its.toArray n dd sl t) ⟨ho, ?_⟩⟩)
    refine ⟨.ref l, H, I, rfl, q l H (fun _ _ z => z) ?_⟩
    have e : (List.replicate (1 : Int).toNat xs).flatten = xs := by simp
    rw [e]
    exact hT
  · have c0 : k = 0 := by omega
    subst c0
    refine wpAny_binaryOp_repeat_ref (T := "tuple") (U := "int") (by decide) ⟨_, ho, rfl⟩ (fun s' => typeIs_int s' 0 t) noFill_tuple_mul F.fills_int_mul F.slot_int_rmul repeat_tuple F.slot_int_index.lookup
      (call_meets F.slot_int_rmul (typeIs_int s 0 t) F.entry_int_rmul (F.args_int_rmul_2 _ _) (int_rmul_tuple 0 t l its.toArray n dd sl)
        ⟨ho, rfl, ⟨_, ho, rfl⟩, call_meets F.slot_tuple_mul ⟨_, ho, rfl⟩ F.entry_tuple_mul (F.args_tuple_mul_2 _ _) (tuple_mul0 l its.toArray n dd sl t hi) ⟨ho, ?_⟩⟩)
    have np : H s.heap.objs.size = none := I.hok.fresh (Nat.le_refl _)
    refine ⟨.ref s.heap.objs.size, _, I.laid (t' := s.toks) (o := .tup []) (fun b ob q => Heap.get?_push_of_some _ q) (Nat.le_refl _) ⟨Nat.zero_le _, [], .nil, IsTup.new _ _⟩, rfl, q _ _ (same_new np) (SqT.of upd_same)⟩
theorem repAK {X : Cx} (K : PySem.W.Frag) (h : X.K = K) : OpR X (binaryOp .Mult) (rRepA K) := h ▸ op_repA
section
variable {K : PySem.W.Frag} {bx X0 : Addr → Prop} {H0 : Hp} {ρ : Rho} {Φ : Dat → Prop}
theorem dpAll_rep {C : Hp} {vs : List V} {ds : List PyData} (h : DpAll K C vs ds) : ∀ n : Nat, DpAll K C (List.replicate n vs).flatten (List.replicate n ds).flatten
  | 0 => .nil
  | n + 1 => by
    rw [List.replicate_succ, List.replicate_succ, List.flatten_cons, List.flatten_cons]
    exact dpAll_app h (dpAll_rep h n)
/-- (x, ..) * k -/
theorem w_repT {a b : TE} (h : W K bx X0 H0 a ρ fun x => W K bx X0 H0 b ρ fun y => ∃ xs k, x = .d (.tuple xs) ∧ y = .d (.int k) ∧ xs ≠ [] ∧ 0 ≤ k ∧ k ≤ 1000 ∧ xs.length ≤ 1000 ∧ firmAll xs = true ∧ Φ (.d (.tuple (List.replicate k.toNat xs).flatten))) : W K bx X0 H0 (tOp (rRepA K) a b) ρ Φ :=
  w_op (h.mono fun x q0 => W.mono q0 fun y ⟨xs, k, e1, e2, ne, k0, k1, l, fm, q⟩ X H E v u d1 d2 Q kq => by
    subst e1 e2
    cases da_d d2
    cases da_d d1 with
    | tup h1 h2 =>
      have hl := dpAll_len h2
      refine ⟨_, k, _, rfl, rfl, grow_sqT (grow_same core_le) h1, fun z => ne ?_, k0, k1, by omega, fun p H' sm hp => ?_⟩
      · rw [z] at hl
        exact List.eq_nil_of_length_eq_zero hl.symm
      · have fr : Fr bx H H' := .of sm
        have e2 := E.go fr
        refine kq (.ref p) _ H' fr (ok_d (x := .tuple _) (.tup (grow_sqT e2.grow hp) (dpAll_rep (dpAll_mono (core_fr fr E.sub) _ _ h2) _))) q)
/-- [x, ..] * k -/
theorem wf_rep {a b : TE} {Φ : List PyData → Prop} (h : W K bx X0 H0 a ρ fun x => W K bx X0 H0 b ρ fun y => ∃ xs k, x = .ls xs ∧ y = .d (.int k) ∧ 0 ≤ k ∧ k ≤ 1000 ∧ xs.length ≤ 1000 ∧ Φ (List.replicate k.toNat xs).flatten) : WF K bx X0 H0 (tOp rRep a b) ρ Φ := fun X H σ e Q kq =>
  h X H σ e _ fun v x H1 f1 d1 q1 => q1 X H1 σ (e.go f1) _ fun u y H2 f2 d2 ⟨xs, k, e1, e2, k0, k1, l, q⟩ => by
    subst e1 e2
    cases da_d d2
    obtain ⟨p, vs, rfl, h1, h2⟩ := da_ls (da_fr f2 e.sub d1)
    have hl := dpAll_len h2
    refine ⟨p, k, vs, rfl, rfl, core_le _ _ h1, by omega, by omega, ?_, fun t n => kq t _ _ _ ((f1.trans f2).new n) ((f1.trans f2).free n) upd_same ?_ q⟩
    · rw [sizeLine_eq]
      have a1 : vs.length * k.toNat ≤ 1000 * 1000 := Nat.mul_le_mul (by omega) (by omega)
      omega
    rw [core_upd (.inr rfl)]
    refine dpAll_mono (fun b o z => ?_) _ _ (dpAll_rep h2 k.toNat)
    obtain ⟨n1, z1, z2⟩ := core_some z
    exact core_of (fun g => g.elim n1 fun g => by rw [g, n] at z1; cases z1) z1 z2
/-- xs[k:] -/
theorem wf_cutFrom {te th : TE} {Φ : List PyData → Prop} (h : W K bx X0 H0 te ρ fun x => W K bx X0 H0 th ρ fun y => ∃ (ys : List PyData) (k : Nat), lst? x = some ys ∧ y = .d (.int (k : Nat)) ∧ Φ (ys.drop k)) : WF K bx X0 H0 (tSl (rSlL K) te (tPart th) tNoPart) ρ Φ := fun X H σ e Q k =>
  h X H σ e _ fun v x H1 f1 d1 q1 => q1 X H1 σ (e.go f1) _ fun u y H2 f2 d2 ⟨ys, n, e1, e2, q⟩ => by
    subst e2
    cases da_d d2
    obtain ⟨a, us, rfl, h1, h2⟩ := da_lst (da_fr f2 e.sub d1) e1
    have l := dpAll_len h2
    refine ⟨(n : Int), rfl, a, us, rfl, h1, fun p np => ?_⟩
    have ec : cutV us (some (n : Int)) none = us.drop n := by
      by_cases c : n ≤ us.length
      · exact cut_from c
      · unfold cutV
        rw [HT.sIx_nat, HT.sIx_none, Nat.min_eq_right (by omega), Nat.sub_self, List.take_zero, List.drop_eq_nil_of_le (by omega)]
    rw [ec]
    refine k p (us.drop n) (ys.drop n) _ ((f1.trans f2).new np) ((f1.trans f2).free np) upd_same ?_ q
    rw [core_upd (.inr rfl)]
    refine dpAll_mono (fun b o z => ?_) _ _ (dpAll_drop n h2)
    obtain ⟨n1, z1, z2⟩ := core_some z
    exact core_of (fun g => g.elim n1 fun g => by rw [g, np] at z1; cases z1) z1 z2
/-- xs[:k], also of fewer -/
theorem wf_cutUp {te th : TE} {Φ : List PyData → Prop} (h : W K bx X0 H0 te ρ fun x => W K bx X0 H0 th ρ fun y => ∃ (ys : List PyData) (k : Nat), lst? x = some ys ∧ y = .d (.int (k : Nat)) ∧ Φ (ys.take k)) : WF K bx X0 H0 (tSl (rSlL K) te tNoPart (tPart th)) ρ Φ := fun X H σ e Q k =>
  h X H σ e _ fun v x H1 f1 d1 q1 => q1 X H1 σ (e.go f1) _ fun u y H2 f2 d2 ⟨ys, n, e1, e2, q⟩ => by
    subst e2
    cases da_d d2
    obtain ⟨a, us, rfl, h1, h2⟩ := da_lst (da_fr f2 e.sub d1) e1
    have l := dpAll_len h2
    refine ⟨(n : Int), rfl, a, us, rfl, h1, fun p np => ?_⟩
    have ec : cutV us none (some (n : Int)) = us.take n := by
      by_cases c : n ≤ us.length
      · exact cut_to c
      · unfold cutV
        rw [HT.sIx_nat, HT.sIx_none, Nat.min_eq_right (by omega), List.take_of_length_le (by omega : us.length ≤ n)]
        show (us.drop 0).take (us.length - 0) = us
        rw [List.drop_zero, Nat.sub_zero, List.take_length]
    rw [ec]
    refine k p (us.take n) (ys.take n) _ ((f1.trans f2).new np) ((f1.trans f2).free np) upd_same ?_ q
    rw [core_upd (.inr rfl)]
    refine dpAll_mono (fun b o z => ?_) _ _ (dpAll_take n h2)
    obtain ⟨n1, z1, z2⟩ := core_some z
    exact core_of (fun g => g.elim n1 fun g => by rw [g, np] at z1; cases z1) z1 z2
end
theorem pe_revLK {X : Cx} {e : Expr} {te : TE} {k : Nat} {p1 p2 p3 pos : Pos} (K : PySem.W.Frag) (hK : X.K = K) (he : PE X e te) : PE X (.Subscript e (.Slice none none (some (.UnaryOp .USub (.Constant (.int 1) k p1) p2)) p3) pos) (tRevL K te) := hK ▸ pe_revL he
end Say

set_option Elab.async false
set_option linter.all false
set_option maxRecDepth 100000
set_option maxHeartbeats 4000000
/-! len(set(xs)) of unlike nested tuples; an own list lent to a call, emptied; calls by keywords in any order -/
namespace Say
universe u
open PySem PySem.Spec PyProof.Rows L2
def tLenSetN (K : PySem.W.Frag) (ta : TE) : TE := fun σ H Q => ta σ H fun x H1 => ∃ (l : Addr) (ks : List KA), x = .ref l ∧ SqL K H1 l (ks.map fun e => .ref e.2) ∧ (∀ e ∈ ks, Dp K H1 (.ref e.2) e.1.data ∧ e.1.depth ≤ 8) ∧ ks.length < 64 ∧ (ks.map (·.1)).Nodup ∧ Q (.int ks.length) H1
theorem pe_lenSetN {X : Cx} {a : Expr} {ta : TE} {p p2 q pos : Pos} (K : PySem.W.Frag) (hK : X.K = K) (hc : X.calm = true) (hu : X.A.units + 65 < cLine) (hg : Gl X "len") (hm : X.mg "len" = none) (hg2 : Gl X "set") (hm2 : X.mg "set" = none) (ha : PE X a ta)
    (na : starEach [a] X.env = (false, eval a X.env) :: starEach [] X.env := by rfl) : PE X (.Call (.Name "len" p) [.Call (.Name "set" p2) [a] [] q] [] pos) (tLenSetN K ta) := by
  subst hK
  refine ⟨fun pins s σ H Q I h => ?_⟩
  refine Call_ (ld_blt I hg hm PySem.boot_len ?_)
  refine PyProof.Rows.callWith_builtin1 (PyProof.Rows.args_cons ?_ rfl) rfl rfl
  refine Call_ (ld_blt I hg2 hm2 PyProof.Rows.boot_set ?_)
  refine PyProof.Rows.callWith_type1 (PyProof.Rows.args_cons (thn (ha.run pins s σ H _ I h) fun v s1 ⟨x, H1, I1, r1, q1⟩ => PyProof.Rows.args_nil ?_) na) na rfl
  obtain ⟨l, ks, rfl, hq, hk, few, nd, q1⟩ := q1
  cases r1
  have keys : ∀ e ∈ ks, IsN s1.heap e.1 e.2 := fun e he => isN_of I1 (hk e he).1 (hk e he).2
  obtain ⟨its, rv, pl, _⟩ := I1.list hq
  refine set_of_list (I1.ok.hd hc) pl.isList (by rw [List.toList_toArray]; exact refs_vals rv) keys few (by omega) fun s2 z => ?_
  obtain ⟨h', tk, L, es, ep, t, rfl, R, g, k⟩ := z
  refine PyProof.Rows.args_nil ?_
  obtain ⟨o, ho, hex, hd⟩ := R.here
  have I2 : Inv X pins σ H1 { s1 with heap := h', toks := tk } := I1.kept fun b o e => k b o e
  have len : L.length = ks.length := by
    have h1 : (L.map (·.1)).Perm (ks.map (·.1)) := (List.perm_ext_iff_of_nodup R.once nd).mpr fun x => by
      constructor
      · intro hx
        obtain ⟨e, he, rfl⟩ := List.mem_map.mp hx
        exact List.mem_map.mpr ⟨e, List.mem_of_mem_take (g.of_ e he), rfl⟩
      · intro hx
        obtain ⟨e, he, rfl⟩ := List.mem_map.mp hx
        exact g.all e (by rw [List.take_length]; exact he)
    have h2 := h1.length_eq
    rwa [List.length_map, List.length_map] at h2
  have hn : es.size = L.length := ents_size R.ents
  have hr := R.room
  have hf : t.fits es.size = true := fits_of R.tab hn (by omega)
  refine call_len_set ho hex hd hf (by rw [hn]; have := R.few; omega) ⟨.int ks.length, H1, I2.tok _, ⟨_, by rw [hn, len]⟩, q1⟩
section
variable {K : PySem.W.Frag} {bx X0 : Addr → Prop} {H0 : Hp} {ρ : Rho} {Φ : Dat → Prop} {β : Type} {key : β → NestedKey}
theorem dp_keys0 {H : Hp} : ∀ {vs : List V} {bs : List β}, (∀ b ∈ bs, ∃ ks, key b = .tup ks) → DpAll K H vs (bs.map fun b => (key b).data) → ∃ ks : List KA, vs = ks.map (fun e => .ref e.2) ∧ ks.map (·.1) = bs.map key ∧ ∀ e ∈ ks, Dp K H (.ref e.2) e.1.data
  | _, [], _, h => by
    cases h
    exact ⟨[], rfl, rfl, fun e he => nomatch he⟩
  | _, b :: bs, tp, h => by
    cases h with
    | @cons v vs _ _ h1 h2 =>
      obtain ⟨ks, e1, e2, e3⟩ := dp_keys0 (fun b hb => tp b (List.mem_cons_of_mem _ hb)) h2
      obtain ⟨k, z⟩ := tp b List.mem_cons_self
      have h1' : Dp K H v (key b).data := h1
      rw [z] at h1'
      cases h1' with
      | @tup a _ _ hs ha =>
        refine ⟨(key b, a) :: ks, by rw [e1]; rfl, by rw [List.map_cons, List.map_cons, e2], fun e he => ?_⟩
        rcases List.mem_cons.mp he with rfl | he
        · show Dp K H (.ref a) (key b).data
          rw [z]
          exact .tup hs ha
        · exact e3 e he
theorem w_lenSetN {ta : TE} (h : W K bx X0 H0 ta ρ fun x => ∃ (β : Type) (key : β → NestedKey) (bs : List β), lst? x = some (bs.map fun b => (key b).data) ∧ (∀ b ∈ bs, (∃ ks, key b = .tup ks) ∧ (key b).depth ≤ 8) ∧ (bs.map key).Nodup ∧ bs.length < 64 ∧ Φ (.d (.int (bs.length : Nat)))) : W K bx X0 H0 (tLenSetN K ta) ρ Φ := fun X H σ e Q k =>
  h X H σ e _ fun v x H1 f d ⟨β, key, bs, e1, tp, nd, few, q⟩ => by
    obtain ⟨a, us, rfl, h1, h2⟩ := da_lst d e1
    obtain ⟨ks, rfl, g2, g3⟩ := dp_keys0 (fun b hb => (tp b hb).1) h2
    have hl : ks.length = bs.length := by
      have := congrArg List.length g2
      rwa [List.length_map, List.length_map] at this
    refine ⟨a, ks, rfl, h1, fun e he => ⟨dp_mono core_le _ _ (g3 e he), ?_⟩, by omega, by rw [g2]; exact nd, k _ _ H1 f (ok_d (Dp.int _)) (by rw [hl]; exact q)⟩
    have : e.1 ∈ bs.map key := by
      rw [← g2]
      exact List.mem_map.mpr ⟨e, he, rfl⟩
    obtain ⟨b, hb, eb⟩ := List.mem_map.mp this
    rw [← eb]
    exact (tp b hb).2
end
/-! an own list, lent -/
section
variable {K : PySem.W.Frag} {bx X0 : Addr → Prop} {H0 : Hp} {ρ : Rho} {N : Rho → Prop} {R : Dat → Prop} {B C : Rho → Prop}
theorem En.lend {X : Addr → Prop} {H : Hp} {σ : L2.St} {i : Nat} {D : Addr} {xs : List PyData} {Z : Hp} (s : Sx K bx X0 H0 Z X H σ ρ) (hi : ρ[i]? = some (some (.o D xs))) (hu : (ρ.set i none).all (fun e => !dO e) = true) : En K bx X0 H0 (fun b => X b ∧ b ≠ D) H σ (ρ.set i (some (.ls xs))) := by
  obtain ⟨v, h1, h2⟩ := s.at_ i _ hi
  obtain ⟨rfl, h3, h4, vs, h5, h6⟩ := da_o h2
  have n0 := s.ow i _ hi D rfl
  have c : Same (core X H) (core (fun b => X b ∧ b ≠ D) H) := core_sub fun b z => z.1
  refine ⟨⟨fun b z => ⟨s.sub b z, fun q => h4 (by rw [← q]; exact z)⟩, fun b z => s.mu b z.1, s.bo, fun b z => ⟨s.s0 b z, fun q => s.d0 b z (by rw [q]; exact n0)⟩, s.fr⟩, by rw [List.length_set]; exact s.len, fun j x hj => ?_⟩
  by_cases e : j = i
  · subst e
    rw [List.getElem?_set, if_pos rfl] at hj
    split at hj
    · cases hj
      exact ⟨_, h1, ok_ls (core_of (fun z => z.2 rfl) h5 fun ps z => (by cases z)) (dpAll_mono c _ _ h6)⟩
    · cases hj
  · have no : isO x = false := by
      have m : some x ∈ ρ.set i none := List.mem_of_getElem? (i := j) (by rw [List.getElem?_set_ne (Ne.symm e)] at hj ⊢; exact hj)
      have := List.all_eq_true.mp hu _ m
      have h2 : (!isO x) = true := this
      simpa using h2
    rw [List.getElem?_set_ne (Ne.symm e)] at hj
    obtain ⟨u, g1, g2⟩ := s.at_ j x hj
    exact ⟨u, g1, daAll_same c no g2⟩
/-- y = e, e asks an own list that may still change; what it answers holds no list -/
theorem ws_lend {te : TE} {i j : Nat} {D : Addr} {xs : List PyData} (hi : ρ[i]? = some (some (.o D xs))) (hu : (ρ.set i none).all (fun e => !dO e) = true)
    (h : W K bx X0 H0 te (ρ.set i (some (.ls xs))) fun x => ∃ d, x = .d d ∧ firm d = true ∧ N (ρ.set j (some (.d d)))) : WS K bx X0 H0 (tAsg te (gName j)) ρ N R B C :=
  ⟨fun Z X H σ s Dd d1 _ _ _ => h _ H σ (En.lend s hi hu) _ fun v x H1 f dx ⟨d, e, fm, q⟩ => by
    subst e
    have s1 := s.go' f
    have d2 : Dp K H1 v d := dp_mono core_le _ _ (da_d dx)
    exact d1 _ X H1 _ q (s1.set' (x := .d d) (ok_d (dp_grow s1.toEnX.grow _ _ fm d2)) rfl)⟩
/-- xs.clear() -/
theorem ws_clear {i : Nat} {D : Addr} {xs : List PyData} (hi : ρ[i]? = some (some (.o D xs))) (hu : ∀ (j : Nat) (ys : List PyData), j ≠ i → ρ[j]? ≠ some (some (.o D ys))) (q : N (ρ.set i (some (.o D [])))) : WS K bx X0 H0 (tDrop (tBM0 K "list" rClear (tVar i))) ρ N R B C :=
  ⟨fun Z X H σ s Dd d1 _ _ _ => by
    obtain ⟨v, h1, h2⟩ := s.at_ i _ hi
    obtain ⟨rfl, h3, h4, vs, h5, h6⟩ := da_o h2
    exact ⟨_, h1, .inl ⟨rfl, _, SqL.of h5⟩, D, vs, rfl, rfl, h5, d1 _ X _ σ q (s.chg hi hu .nil)⟩⟩
end
/-! calls by keywords -/
def gPm {α : Type} (pi : List Nat) : List α → List α → List α
  | [], ws => pi.filterMap fun i => ws[i]?
  | _ :: _, _ => []
theorem vals_at {zs : List V} {ws : List Value} (h : Vals zs ws) : ∀ i : Nat, (∃ z w, zs[i]? = some z ∧ ws[i]? = some w ∧ RelV z w) ∨ (zs[i]? = none ∧ ws[i]? = none) := fun i => by
  induction h generalizing i with
  | nil => exact .inr ⟨rfl, rfl⟩
  | cons r _ ih =>
    cases i with
    | zero => exact .inl ⟨_, _, rfl, rfl, r⟩
    | succ i => exact ih i
theorem gPm_rel {pi : List Nat} {vs : List V} {us : List Value} {zs : List V} {ws : List Value} (h1 : Vals vs us) (h2 : Vals zs ws) : Vals (gPm pi vs zs) (gPm pi us ws) := by
  cases h1 with
  | cons _ _ => exact .nil
  | nil =>
    show Vals (pi.filterMap fun i => zs[i]?) (pi.filterMap fun i => ws[i]?)
    induction pi with
    | nil => exact .nil
    | cons i pi ih =>
      rw [List.filterMap_cons, List.filterMap_cons]
      rcases vals_at h2 i with ⟨z, w, e1, e2, r⟩ | ⟨e1, e2⟩
      · rw [e1, e2]
        exact .cons r ih
      · rw [e1, e2]
        exact ih
section
variable {K : PySem.W.Frag} {bx X0 : Addr → Prop} {H0 : Hp} {ρ : Rho} {Φ : Dat → Prop}
theorem daAll_at {X : Addr → Prop} {H : Hp} {vs : List V} {xs : List Dat} (h : DaAll K bx X H vs xs) : ∀ i : Nat, (∃ v x, vs[i]? = some v ∧ xs[i]? = some x ∧ DaOk K bx X H v x) ∨ (vs[i]? = none ∧ xs[i]? = none) := fun i => by
  induction h generalizing i with
  | nil => exact .inr ⟨rfl, rfl⟩
  | cons r _ ih =>
    cases i with
    | zero => exact .inl ⟨_, _, rfl, rfl, r⟩
    | succ i => exact ih i
theorem daAll_pm {X : Addr → Prop} {H : Hp} {pi : List Nat} {vs : List V} {xs : List Dat} (h : DaAll K bx X H vs xs) : DaAll K bx X H (gPm pi [] vs) (gPm pi [] xs) := by
  show DaAll K bx X H (pi.filterMap fun i => vs[i]?) (pi.filterMap fun i => xs[i]?)
  induction pi with
  | nil => exact .nil
  | cons i pi ih =>
    rw [List.filterMap_cons, List.filterMap_cons]
    rcases daAll_at h i with ⟨z, w, e1, e2, r⟩ | ⟨e1, e2⟩
    · rw [e1, e2]
      exact .cons r ih
    · rw [e1, e2]
      exact ih
/-- f(k=e, ..) -/
theorem w_callKs {α : Type u} {g : FnA α} {E : XK} {pi : List Nat} {tk : TA} (h : WA K bx X0 H0 tk ρ fun xs => ∃ a, (gPm pi [] xs).map normD = g.args a ∧ noO (gPm pi [] xs) = true ∧ g.pre bx a ∧ (∀ y, g.post a y → Φ y) ∧ ∀ e, g.exn a e → GivesE K bx X0 H0 E e) : W K bx X0 H0 (tCallK (spA K g) (gPm pi) E tNil tk) ρ Φ := fun X H σ e Q k =>
  h X H σ e _ fun vs xs H1 f d ⟨a, ea, ox, p, q, qe⟩ => by
    have e2 := e.toEnX.go f
    refine ⟨a, bx, X, ⟨e2.sub, e2.mu, e2.bo, fun _ z => z, .refl H1⟩, by rw [← ea]; exact norms_ok (daAll_pm d), fun y hy => ?_, p, fun y hy v H2 f2 dv => k v y H2 (f.trans f2) dv (q y hy), fun ex he H2 dd vs2 f2 dv hd => qe ex he H2 dd vs2 (e2.fr.trans f2) (dpAll_mono (core_sub e.s0) _ _ dv) hd⟩
    rw [← ea] at hy
    obtain ⟨z, hz, rfl⟩ := List.mem_map.mp hy
    exact norm_o (noO_mem ox z hz)
end
end Say

set_option Elab.async false
set_option linter.all false
set_option pp.maxSteps 1500
set_option pp.deepTerms false
set_option maxRecDepth 100000
set_option maxHeartbeats 8000000
namespace K03
open PySem PySem.Spec PyProof.Rows L2 Say LamX
section
variable {P : Program} {w : World} {K : PySem.W.Frag} {mg : Str → Option Value} {base : Heap}
theorem kb_prime_premises {fd : FuncData} (F : FnP K "prime_premises" 49 [] (He.ga K "prime_premises") fd) : KBinds K fd ["places", "premises"] ["premises", "places"] (gPm [1, 0]) (gPm [1, 0]) := by
  obtain ⟨oc, od, dV, kV, doc, pm, an, cdv, ct, osl, rfl, lk, hcd, hD, hK⟩ := F.ex
  rcases hD with ⟨_, rfl⟩ | ⟨e, _⟩
  · refine ⟨fun s us ws _ hl => ?_, gPm_rel⟩
    match us, ws, hl with
    | [], a0 :: a1 :: r, _ => exact .of_eq rfl
  · exact absurd rfl e
theorem pe_prime_premisesK {X : Cx} {pos p : Pos} {kws : List Keyword} {tk : TA} {E : XK} (hx : Passes (L2.CX X.prog X.w) X E) (T : Tx X.K X.mg) (hr : Room 5 X.A) (hg : Gl X "prime_premises") (hkw : PK X kws tk) (hall : (backToKw pos (keywordEach kws X.env)).all (·.1.isSome) = true := by rfl)
    (hks : (backToKw pos (keywordEach kws X.env)).filterMap (·.1) = (["premises", "places"] : List Str) := by rfl)
    (hpl : ((backTo pos (starEach [] X.env)).any (·.1) || (backToKw pos (keywordEach kws X.env)).any (·.1.isNone)) = false := by rfl) :
    PE X (.Call (.Name "prime_premises" p) [] kws pos) (tCallK (spA X.K (f_prime_premises X.K)) (gPm [1, 0]) E tNil tk) := by
  obtain ⟨fd, F⟩ := T.F_prime_premises
  exact pe_callK0 (fk_prime_premises (P := X.prog) (w := X.w) (base := X.base) T F) hr hg T.g_prime_premises F.kp (kb_prime_premises F) hx hkw hall hks (by decide) hpl
theorem kb_rows_premises {fd : FuncData} (F : FnP K "rows_premises" 50 [] (He.ga K "rows_premises") fd) : KBinds K fd ["places", "rows"] ["rows", "places"] (gPm [1, 0]) (gPm [1, 0]) := by
  obtain ⟨oc, od, dV, kV, doc, pm, an, cdv, ct, osl, rfl, lk, hcd, hD, hK⟩ := F.ex
  rcases hD with ⟨_, rfl⟩ | ⟨e, _⟩
  · refine ⟨fun s us ws _ hl => ?_, gPm_rel⟩
    match us, ws, hl with
    | [], a0 :: a1 :: r, _ => exact .of_eq rfl
  · exact absurd rfl e
theorem pe_rows_premisesK {X : Cx} {pos p : Pos} {kws : List Keyword} {tk : TA} {E : XK} (hx : Passes (L2.CX X.prog X.w) X E) (T : Tx X.K X.mg) (hr : Room 5 X.A) (hg : Gl X "rows_premises") (hkw : PK X kws tk) (hall : (backToKw pos (keywordEach kws X.env)).all (·.1.isSome) = true := by rfl)
    (hks : (backToKw pos (keywordEach kws X.env)).filterMap (·.1) = (["rows", "places"] : List Str) := by rfl)
    (hpl : ((backTo pos (starEach [] X.env)).any (·.1) || (backToKw pos (keywordEach kws X.env)).any (·.1.isNone)) = false := by rfl) :
    PE X (.Call (.Name "rows_premises" p) [] kws pos) (tCallK (spA X.K (f_rows_premises X.K)) (gPm [1, 0]) E tNil tk) := by
  obtain ⟨fd, F⟩ := T.F_rows_premises
  exact pe_callK0 (fk_rows_premises (P := X.prog) (w := X.w) (base := X.base) T F) hr hg T.g_rows_premises F.kp (kb_rows_premises F) hx hkw hall hks (by decide) hpl
theorem kb_prime_book {fd : FuncData} (F : FnP K "prime_book" 51 [] (He.ga K "prime_book") fd) : KBinds K fd ["book"] ["book"] (gPm [0]) (gPm [0]) := by
  obtain ⟨oc, od, dV, kV, doc, pm, an, cdv, ct, osl, rfl, lk, hcd, hD, hK⟩ := F.ex
  rcases hD with ⟨_, rfl⟩ | ⟨e, _⟩
  · refine ⟨fun s us ws _ hl => ?_, gPm_rel⟩
    match us, ws, hl with
    | [], a0 :: r, _ => exact .of_eq rfl
  · exact absurd rfl e
theorem pe_prime_bookK {X : Cx} {pos p : Pos} {kws : List Keyword} {tk : TA} {E : XK} (hx : Passes (L2.CX X.prog X.w) X E) (T : Tx X.K X.mg) (hr : Room 7 X.A) (hg : Gl X "prime_book") (hkw : PK X kws tk) (hall : (backToKw pos (keywordEach kws X.env)).all (·.1.isSome) = true := by rfl)
    (hks : (backToKw pos (keywordEach kws X.env)).filterMap (·.1) = (["book"] : List Str) := by rfl)
    (hpl : ((backTo pos (starEach [] X.env)).any (·.1) || (backToKw pos (keywordEach kws X.env)).any (·.1.isNone)) = false := by rfl) :
    PE X (.Call (.Name "prime_book" p) [] kws pos) (tCallK (spA X.K (f_prime_book X.K)) (gPm [0]) E tNil tk) := by
  obtain ⟨fd, F⟩ := T.F_prime_book
  exact pe_callK0 (fk_prime_book (P := X.prog) (w := X.w) (base := X.base) T F) hr hg T.g_prime_book F.kp (kb_prime_book F) hx hkw hall hks (by decide) hpl
end
end K03

set_option Elab.async false
set_option linter.all false
set_option pp.maxSteps 1500
set_option pp.deepTerms false
set_option maxRecDepth 100000
set_option maxHeartbeats 8000000
namespace K03
open PySem PySem.Spec PyProof.Rows L2 Say LamX
/-! ### the law's lambdas -/
def loopB : List Stmt := match defBody (top 66) with
  | _ :: .For _ _ b _ _ :: _ => b
  | _ => []
theorem chk : loopB.length = 21 := by decide +kernel
def lmOf : Expr → Lm
  | .Lambda ps bd sc _ => ⟨ps, bd, sc⟩
  | e => ⟨defArgs (top 66), e, defScope (top 66)⟩
def lm1 : Lm := lmOf (match loopB.drop 15 with
  | .Assign _ (.List (.Tuple (e :: _) _ _ :: _) _) _ :: _ => e
  | _ => .Name "" ⟨0, 0, 0, 0⟩)
def lmApp : List Stmt → Expr
  | .Expr (.Call _ (.Tuple (e :: _) _ _ :: _) _ _) _ :: _ => e
  | _ => .Name "" ⟨0, 0, 0, 0⟩
def lm2 : Lm := lmOf (lmApp (loopB.drop 16))
def lm3 : Lm := lmOf (lmApp (loopB.drop 17))
def lm4 : Lm := lmOf (lmApp (loopB.drop 18))
def lm5 : Lm := lmOf (lmApp (loopB.drop 19))
theorem ls1 : LamS (defScope (top 66)) lm1.sc := lamS_by (by decide +kernel)
theorem ls2 : LamS (defScope (top 66)) lm2.sc := lamS_by (by decide +kernel)
theorem ls3 : LamS (defScope (top 66)) lm3.sc := lamS_by (by decide +kernel)
theorem ls4 : LamS (defScope (top 66)) lm4.sc := lamS_by (by decide +kernel)
theorem ls5 : LamS (defScope (top 66)) lm5.sc := lamS_by (by decide +kernel)
def pLaw : He.Defn := ("law", none)
def N_law : List Str := ["script", "k", "others", "given", "found", "rows", "further", "book", "works", "box", "drawn", "places", "told", "premise", "side", "row", "work", "due", "size", "lot"]
theorem sc_law : FnScope N_law ["script"] (defScope (top 66)) := ⟨rfl, rfl, rfl, by decide +kernel, rfl, by decide +kernel, by decide +kernel⟩
theorem q66 : (envOfC ("law" : Str) (defScope (top 66)) 0 0 .none).qual ++ "<lambda>" = qLam := by decide +kernel
abbrev XL (P : Program) (w : World) (K : PySem.W.Frag) (mg : Str → Option Value) (base : Heap) (A : Around) (ou : List Env) (s : Shared) (H0 : Hp) (E : XK) : Cx :=
  (cxOf CX0 P w K mg base N_law ("law" : Str) (defScope (top 66)) (He.ga K "law") (.ref (He.codeOf K pLaw)) A ou s H0 E).nox
inductive W5 where
  | a
  | b
  | c
  | d
  | e
def lms : W5 → Lm
  | .a => lm1
  | .b => lm2
  | .c => lm3
  | .d => lm4
  | .e => lm5
noncomputable def lmT (K : PySem.W.Frag) : W5 → XK → TE
  | .a => fun E => tCall (spA K (f_prime_premises K)) [] E (tCons (tCall (spPick K) [] E0 (tCons (tVar 9) (tCons (tLst (tCons (tC (.int 4)) (tCons (tUn (rU fun i => .int (-i)) (tC (.int 1))) (tCons (tC .non) (tCons (tC (.bl true)) tNil))))) tNil))) (tCons (tC .non) tNil))
  | .b => fun E => tCall (spA K (f_prime_premises K)) [] E (tCons (tVar 11) (tCons (tOp rCat (tVar 12) (tLst (tCons (tTup (tCons (tTup (tCons (tOp (rI0 fun i j => .int (i + j)) (tVar 11) (tC (.int 1))) tNil)) (tCons (tTup tNil) tNil))) tNil))) tNil))
  | .c => fun E => tCall (spA K (f_prime_premises K)) [] E (tCons (tVar 11) (tCons (tCall (spPick K) [] E0 (tCons (tVar 9) (tCons (tLst (tCons (tC .non) (tCons (tC (.int 3)) (tCons (tC (.str "|")) tNil)))) tNil))) tNil))
  | .d => fun E => tCall (spA K (f_rows_premises K)) [] E (tCons (tVar 11) (tCons (tOp rCat (tVar 10) (tLst (tCons (tOp (rCatA K) (tOp (rRepA K) (tTup (tCons (tC (.int 2)) tNil)) (tVar 11)) (tTup (tCons (tC (.int 0)) tNil))) tNil))) tNil))
  | .e => fun E => tCall (spA K (f_rows_premises K)) [] E (tCons (tVar 11) (tCons (tC .non) tNil))
section
variable {P : Program} {w : World} {K : PySem.W.Frag} {mg : Str → Option Value} {base : Heap}
theorem qXL {A : Around} {ou : List Env} {s : Shared} {H0 : Hp} {E : XK} : (XL P w K mg base A ou s H0 E).env.qual ++ "<lambda>" = qLam := q66
theorem lms_ok (T : Tx K mg) {A : Around} {ou : List Env} {s : Shared} {H0 : Hp} {E1 : XK} : ∀ (j : W5) (E : XK), LmOk (XL P w K mg base A ou s H0 E1) 6 E (lms j) (lmT K j E)
  | .a, E => ⟨ls1, fun _ _ _ _ _ => rfl, fun A ou s H f c hr => pe_gd (E := E) (gk_prime_premises T) (hr.mono (by decide)) rfl T.g_prime_premises (passes_call (takes_of rfl rfl rfl rfl) fun _ _ _ _ z => z) (pa_cons (pe_gd (ok_pick T) (hr.mono (by decide)) rfl T.g__law_pick pass0 (pa_cons (pv 9) (pa_cons (pe_lst (pa_cons pe_int (pa_cons (pe_un un_neg pe_int) (pa_cons pe_non (pa_cons pe_bl pa_nil))))) pa_nil))) (pa_cons pe_non pa_nil))⟩
  | .b, E => ⟨ls2, fun _ _ _ _ _ => rfl, fun A ou s H f c hr => pe_gd (E := E) (gk_prime_premises T) (hr.mono (by decide)) rfl T.g_prime_premises (passes_call (takes_of rfl rfl rfl rfl) fun _ _ _ _ z => z) (pa_cons (pv 11) (pa_cons (pe_op op_cat (pv 12) (pe_lst (pa_cons (pe_tup (pa_cons (pe_tup (pa_cons (pe_op op_add (pv 11) pe_int) pa_nil)) (pa_cons (pe_tup pa_nil) pa_nil))) pa_nil))) pa_nil))⟩
  | .c, E => ⟨ls3, fun _ _ _ _ _ => rfl, fun A ou s H f c hr => pe_gd (E := E) (gk_prime_premises T) (hr.mono (by decide)) rfl T.g_prime_premises (passes_call (takes_of rfl rfl rfl rfl) fun _ _ _ _ z => z) (pa_cons (pv 11) (pa_cons (pe_gd (ok_pick T) (hr.mono (by decide)) rfl T.g__law_pick pass0 (pa_cons (pv 9) (pa_cons (pe_lst (pa_cons pe_non (pa_cons pe_int (pa_cons pe_str pa_nil)))) pa_nil))) pa_nil))⟩
  | .d, E => ⟨ls4, fun _ _ _ _ _ => rfl, fun A ou s H f c hr => pe_gd (E := E) (gk_rows_premises T) (hr.mono (by decide)) rfl T.g_rows_premises (passes_call (takes_of rfl rfl rfl rfl) fun _ _ _ _ z => z) (pa_cons (pv 11) (pa_cons (pe_op op_cat (pv 10) (pe_lst (pa_cons (pe_op (cataK K rfl) (pe_op (repAK K rfl) (pe_tup (pa_cons pe_int pa_nil)) (pv 11)) (pe_tup (pa_cons pe_int pa_nil))) pa_nil))) pa_nil))⟩
  | .e, E => ⟨ls5, fun _ _ _ _ _ => rfl, fun A ou s H f c hr => pe_gd (E := E) (gk_rows_premises T) (hr.mono (by decide)) rfl T.g_rows_premises (passes_call (takes_of rfl rfl rfl rfl) fun _ _ _ _ z => z) (pa_cons (pv 11) (pa_cons pe_non pa_nil))⟩
end
end K03

set_option Elab.async false
set_option linter.all false
set_option pp.maxSteps 1500
set_option pp.deepTerms false
set_option maxRecDepth 100000
set_option maxHeartbeats 8000000
namespace K03
open PySem PySem.Spec PyProof.Rows L2 Say LamX
/-! ### the law's data -/
/-- a premise handed in as lists -/
def gvD (p : Pm) : PyData := .list [.list (p.1.map PyData.int), .list (p.2.map PyData.int)]
theorem side_drL {n : Nat} {l : List Int} (h : ∀ x ∈ l, 1 ≤ x ∧ x ≤ (n : Int)) : sideD n (.list (l.map PyData.int)) = some l := side_dr (n := n) h
theorem prem_drL {n : Nat} {p : Pm} (h : DrP n p) : premD n (gvD p) = some p := prem_dr h
theorem need_drL {n : Nat} : ∀ {ps : List Pm} {i : Nat}, (∀ p ∈ ps, DrP n p) → needGo n i (ps.map gvD) = .inr ps
  | [], _, _ => rfl
  | p :: ps, i, h => by
    unfold needGo
    rw [List.map_cons]
    simp only
    rw [prem_drL (h p List.mem_cons_self), need_drL fun q hq => h q (List.mem_cons_of_mem _ hq)]
theorem need_bad {n : Nat} {d : PyData} (hd : premD n d = none) : ∀ {ps : List Pm} {i : Nat}, (∀ p ∈ ps, DrP n p) → needGo n i (ps.map pmD ++ [d]) = .inl ((i + ps.length : Nat) : Int)
  | [], i, _ => by
    show needGo n i [d] = _
    unfold needGo
    rw [hd]
    rfl
  | p :: ps, i, h => by
    show needGo n i (pmD p :: (ps.map pmD ++ [d])) = _
    unfold needGo
    rw [prem_dr (h p List.mem_cons_self), need_bad hd (ps := ps) (i := i + 1) fun q hq => h q (List.mem_cons_of_mem _ hq)]
    show Sum.inl _ = Sum.inl _
    rw [List.length_cons]
    congr 2
    omega
theorem few_drL {n : Nat} {p : Pm} (h : DrP n p) : fewD (gvD p) := fun ds e s hs es e2 => by
  cases e
  rcases List.mem_cons.mp hs with rfl | hs
  · cases e2
    rw [List.length_map]
    have := h.l1
    omega
  · rcases List.mem_cons.mp hs with rfl | hs
    · cases e2
      rw [List.length_map]
      have := h.l2
      omega
    · cases hs
theorem primeL_congr {n : Nat} {rs qs : List (List Int)} (h : ∀ r, r ∈ rs ↔ r ∈ qs) : primeL n rs = primeL n qs := by
  have e : ((plainL n).filter fun e => rs.all fun r => holdB r e) = (plainL n).filter fun e => qs.all fun r => holdB r e := by
    refine List.filter_congr fun e _ => ?_
    rw [Bool.eq_iff_iff, List.all_eq_true, List.all_eq_true]
    exact ⟨fun z r hr => z r ((h r).mpr hr), fun z r hr => z r ((h r).mp hr)⟩
  show sortP (leastL _) = sortP (leastL _)
  rw [e]
theorem all_congr {ps qs : List Pm} (h : ∀ p, p ∈ ps ↔ p ∈ qs) (r : List Int) : ps.all (holdB r) = qs.all (holdB r) := by
  rw [Bool.eq_iff_iff, List.all_eq_true, List.all_eq_true]
  exact ⟨fun z p hp => z p ((h p).mpr hp), fun z p hp => z p ((h p).mp hp)⟩
theorem prime_inj {n : Nat} (h : n ≤ 3) (P Q : List Int → Bool) : primeL n ((rowsL n).filter P) = primeL n ((rowsL n).filter Q) ↔ (rowsL n).filter P = (rowsL n).filter Q := by
  constructor
  · intro e
    have a := wake_prime h P
    have b := wake_prime h Q
    rw [e] at a
    exact a.symm.trans b
  · intro e
    rw [e]
theorem eqvAll_rows : ∀ rs qs : List (List Int), PyData.eqvAll (rs.map rowD) (qs.map rowD) = decide (rs = qs)
  | [], [] => rfl
  | [], q :: qs => rfl
  | p :: ps, [] => rfl
  | p :: ps, q :: qs => by
    show (PyData.eqvAll (p.map PyData.int) (q.map PyData.int) && PyData.eqvAll (ps.map rowD) (qs.map rowD)) = _
    rw [eqvAll_rows ps qs, ints_eqv]
    by_cases h1 : p = q <;> by_cases h2 : ps = qs <;> simp [h1, h2]
theorem rows_lay : ∀ rs : List (List Int), PyData.canLayAll0 (rs.map rowD) = true
  | [] => rfl
  | r :: rs => by
    show (PyData.canLayAll0 (r.map PyData.int) && PyData.canLayAll0 (rs.map rowD)) = true
    rw [lay_ints, rows_lay rs]
    rfl
theorem rows_dep : ∀ rs : List (List Int), PyData.depthAll (rs.map rowD) ≤ 1
  | [] => Nat.zero_le _
  | r :: rs => by
    show max (PyData.depthAll (r.map PyData.int) + 1) (PyData.depthAll (rs.map rowD)) ≤ 1
    have := rows_dep rs
    rw [dep_ints]
    omega
theorem rows_shaped (rs : List (List Int)) : SeqAt.shaped (.list (rs.map rowD)) = true ∧ SeqAt.shaped (.tuple (rs.map rowD)) = true := by
  have h1 := rows_lay rs
  have h2 := rows_dep rs
  constructor
  · unfold SeqAt.shaped
    have e1 : PyData.canLay0 (.list (rs.map rowD)) = true := h1
    have e2 : PyData.depth (.list (rs.map rowD)) ≤ 64 := by show PyData.depthAll _ + 1 ≤ 64; omega
    rw [e1, decide_eq_true e2]
    rfl
  · unfold SeqAt.shaped
    have e1 : PyData.canLay0 (.tuple (rs.map rowD)) = true := h1
    have e2 : PyData.depth (.tuple (rs.map rowD)) ≤ 64 := by show PyData.depthAll _ + 1 ≤ 64; omega
    rw [e1, decide_eq_true e2]
    rfl
theorem pmsT_shaped (m : List Pm) : SeqAt.shaped (.tuple (m.map pmD)) = true := by
  unfold SeqAt.shaped
  have h1 : PyData.canLay0 (.tuple (m.map pmD)) = true := pms_lay m
  have h2 : PyData.depth (.tuple (m.map pmD)) ≤ 64 := by
    show PyData.depthAll (m.map pmD) + 1 ≤ 64
    have := pms_dep m
    omega
  rw [h1, decide_eq_true h2]
  rfl
theorem ints_shaped (ns : List Int) : SeqAt.shaped (.list (ns.map PyData.int)) = true := by
  unfold SeqAt.shaped
  have h1 : PyData.canLay0 (.list (ns.map PyData.int)) = true := lay_ints ns
  have h2 : PyData.depth (.list (ns.map PyData.int)) ≤ 64 := by
    show PyData.depthAll (ns.map PyData.int) + 1 ≤ 64
    rw [dep_ints]
    decide
  rw [h1, decide_eq_true h2]
  rfl
/-! the anchors -/
theorem ordB_one {β : Type} (enc : β → PyData) (b : β) : ordB enc [b] = [b] := ordB_of (List.pairwise_singleton _ _) fun _ => Iff.rfl
theorem sortP_one (p : Pm) : sortP [p] = [p] := ordB_one _ _
theorem anchor1 : primeL 2 ((rowsL 2).filter fun r => ([([], [1, 2]), ([1], [2])] : List Pm).all (holdB r)) = [([], [2])] := by
  have e : leastL ((plainL 2).filter fun e => ((rowsL 2).filter fun r => ([([], [1, 2]), ([1], [2])] : List Pm).all (holdB r)).all fun r => holdB r e) = [([], [2])] := by decide +kernel
  show sortP (leastL _) = _
  rw [e, sortP_one]
theorem anchor2 : primeL 1 ((rowsL 1).filter fun r => ([([1], []), ([], [1])] : List Pm).all (holdB r)) = [([], [])] := by
  have e : leastL ((plainL 1).filter fun e => ((rowsL 1).filter fun r => ([([1], []), ([], [1])] : List Pm).all (holdB r)).all fun r => holdB r e) = [([], [])] := by decide +kernel
  show sortP (leastL _) = _
  rw [e, sortP_one]
/-! all lots of rows -/
def lotsB (n : Nat) : Bool := decide (lotsL (rowsL n)).Nodup && (lotsL (rowsL n)).all fun l => decide ((rowsL n).filter (fun r => decide (r ∈ l)) = l)
theorem lots_ok {n : Nat} (h : n ≤ 2) : lotsB n = true := by
  have : n = 0 ∨ n = 1 ∨ n = 2 := by omega
  rcases this with rfl | rfl | rfl <;> decide +kernel
theorem lots_prime {n : Nat} (h : n ≤ 2) : ((lotsL (rowsL n)).map (primeL n)).Nodup := by
  have z := lots_ok h
  unfold lotsB at z
  rw [Bool.and_eq_true, decide_eq_true_eq, List.all_eq_true] at z
  have inj : ∀ l ∈ lotsL (rowsL n), ∀ m ∈ lotsL (rowsL n), primeL n l = primeL n m → l = m := fun l hl m hm e => by
    have a := of_decide_eq_true (z.2 l hl)
    have b := of_decide_eq_true (z.2 m hm)
    rw [← a, ← b] at e ⊢
    exact (prime_inj (by omega) _ _).mp e
  exact List.pairwise_map.mpr (z.1.imp_of_mem fun {a b} ha hb ne e => ne (inj a ha b hb e))
def lotsC (n : Nat) : Bool := (lotsL (rowsL n)).all fun l => l.all fun r => decide (r.length = n)
theorem lots_rows {n : Nat} (h : n ≤ 2) : ∀ l ∈ lotsL (rowsL n), ∀ r ∈ l, r.length = n := by
  have z : lotsC n = true := by
    have : n = 0 ∨ n = 1 ∨ n = 2 := by omega
    rcases this with rfl | rfl | rfl <;> decide +kernel
  unfold lotsC at z
  rw [List.all_eq_true] at z
  exact fun l hl r hr => of_decide_eq_true (List.all_eq_true.mp (z l hl) r hr)
theorem lots_size : (lotsL (rowsL 0)).length = 2 ∧ (lotsL (rowsL 1)).length = 4 ∧ (lotsL (rowsL 2)).length = 16 := by decide +kernel
/-- a lot of premises, as a key -/
def lotK (ps : List Pm) : NestedKey := .tup (ps.map pmK)
theorem lotK_data (ps : List Pm) : (lotK ps).data = .tuple (ps.map pmD) := by
  show PyData.tuple (NestedKey.datas (ps.map pmK)) = _
  rw [datas_pm]
theorem lotK_depth (ps : List Pm) : (lotK ps).depth ≤ 8 := by
  show NestedKey.depthAll (ps.map pmK) + 1 ≤ 8
  have := deep_pm ps
  omega
theorem lotK_inj {ps qs : List Pm} (h : lotK ps = lotK qs) : ps = qs := by
  unfold lotK at h
  injection h with h
  exact pmK_maps h
/-! the book -/
theorem it_name : nameS "it" = true ∧ ("it" : Str).length ≤ 8 ∧ PyData.canLay0 (.str "it") = true := ⟨by decide +kernel, by decide +kernel, by decide +kernel⟩
theorem sortM_one (m : Str × Nat) : sortM [m] = [m] := ordB_one _ _
theorem rl_lt (a b : List Pm) : PySem.W.dataLt (rlD ("it", "left", a)) (rlD ("it", "right", b)) = true := by
  show PyProof.Rows.lexLt itemOrd (.inl 1 :: .inr ("it" : Str).cps.toList :: .inl 1 :: .inr ("left" : Str).cps.toList :: _) (.inl 1 :: .inr ("it" : Str).cps.toList :: .inl 1 :: .inr ("right" : Str).cps.toList :: _) = true
  rw [lex_self, lex_self, lex_self, lex_diff (by decide +kernel)]
  decide +kernel
theorem sortR_two (a b : List Pm) : sortR [(("it" : Str), ("left" : Str), a), (("it" : Str), ("right" : Str), b)] = [(("it" : Str), ("left" : Str), a), (("it" : Str), ("right" : Str), b)] := by
  refine ordB_of (List.pairwise_cons.mpr ⟨fun r hr => ?_, List.pairwise_singleton _ _⟩) fun _ => Iff.rfl
  rw [List.mem_singleton.mp hr]
  show PySem.W.dataLt (rlK _).data (rlK _).data = true
  rw [rlK_data, rlK_data]
  exact rl_lt a b
end K03

set_option Elab.async false
set_option linter.all false
set_option pp.maxSteps 1500
set_option pp.deepTerms false
set_option maxRecDepth 100000
set_option maxHeartbeats 8000000
namespace K03
open PySem PySem.Spec PyProof.Rows L2 Say LamX
/-! ### what the works are refused with -/
theorem due_int (x : Str) (h0 : PyData.canLay0 (.str x) = true) (k : Int) : SeqAt.shaped (.tuple [.str x, .int k]) = true := by
  unfold SeqAt.shaped
  have e1 : PyData.canLay0 (.tuple [.str x, .int k]) = true := by
    show (PyData.canLay0 (.str x) && (true && true)) = true
    rw [h0]
    rfl
  rw [e1]
  rfl
def dueL (t d : Nat) : List (W5 × PyData) := [(.a, .tuple [.str "size", .str "places"]), (.b, .tuple [.str "premises", .int (t : Nat)]), (.c, .tuple [.str "premises", .int (-1)]), (.d, .tuple [.str "row", .int (d : Nat)]), (.e, .tuple [.str "row", .int (-1)])]
theorem twos (n : Nat) : (List.replicate (n : Int).toNat [PyData.int 2]).flatten = (List.replicate n 2).map PyData.int := by
  rw [Int.toNat_natCast]
  induction n with
  | zero => rfl
  | succ n ih =>
    rw [List.replicate_succ, List.flatten_cons, ih, List.replicate_succ]
    rfl
theorem row_bad (n : Nat) : rowI (n : Nat) (.tuple ((List.replicate n 2).map PyData.int ++ [.int 0])) = none := by
  unfold rowI
  have e : itemsD (.tuple ((List.replicate n 2).map PyData.int ++ [.int 0])) = some ((List.replicate n 2).map PyData.int ++ [.int 0]) := rfl
  rw [e]
  show (if ((_ : Bool) && decide (_ = _)) = true then _ else none) = none
  have l : decide (((((List.replicate n 2).map PyData.int ++ [PyData.int 0]).length : Nat) : Int) = (n : Nat)) = false := by
    refine decide_eq_false ?_
    simp only [List.length_append, List.length_map, List.length_replicate, List.length_cons, List.length_nil]
    omega
  rw [l, Bool.and_false]
  rfl
theorem prem_out (n : Nat) : premD n (.tuple [.tuple [.int ((n : Int) + 1)], .tuple []]) = none := by
  refine prem_bad (ds := [.tuple [.int ((n : Int) + 1)], .tuple []]) (x := .tuple [.int ((n : Int) + 1)]) rfl List.mem_cons_self ?_
  refine side_bad (es := [.int ((n : Int) + 1)]) rfl ?_
  show (decide (0 ≤ (n : Int) + 1) && (decide (1 ≤ (n : Int) + 1) && decide ((n : Int) + 1 ≤ (n : Int))) && true) = false
  rw [decide_eq_false (by omega : ¬ ((n : Int) + 1 ≤ (n : Int)))]
  simp
section
variable {K : PySem.W.Frag} {bx X1 : Addr → Prop} {H1 : Hp} {ρ : Rho} {E : XK}
theorem w_lm {n : Nat} {p : Addr} {told : List Pm} {dr : List (List Int)} (n3 : n ≤ 3) (hb : bx p) (h9 : ρ[9]? = some (some (.v (.ref p)))) (h11 : ρ[11]? = some (some (.d (.int (n : Nat))))) (h12 : ρ[12]? = some (some (.ls (told.map pmD)))) (h10 : ρ[10]? = some (some (.ls (dr.map rowD))))
    (ht : ∀ q ∈ told, DrP n q) (lt : told.length ≤ 4) (hd : ∀ r ∈ dr, (r.length : Int) = (n : Nat) ∧ ∀ x ∈ r, x = 0 ∨ x = 1) (ld : dr.length ≤ 8) :
    ∀ e ∈ dueL told.length dr.length, (∀ x y, (hrd K).err x y → Due e.2 y → GivesE K bx X1 H1 E x) → W K bx X1 H1 (lmT K e.1 E) ρ fun x => ∃ y, dat? x = some y ∧ Due e.2 ((hrd K).told y) := by
  intro e he hE
  have lay1 : PyData.canLay0 (.str "premises") = true := by decide +kernel
  have lay2 : PyData.canLay0 (.str "row") = true := by decide +kernel
  have bn : belowB (.int (n : Nat)) 4 = true := by
    show (decide ((0 : Int) ≤ (n : Nat)) && decide (((n : Nat) : Int) < 4)) = true
    rw [decide_eq_true (by omega), decide_eq_true (by omega)]
    rfl
  rcases List.mem_cons.mp he with rfl | he
  · refine w_call (wa_cons (w_pick (wa_cons (w_var h9 (wa_cons (w_of_wf (wf_lst (wa_cons (w_int (wa_cons (w_neg (w_int ⟨1, rfl, wa_cons (w_non (wa_cons (w_bl (wa_nil ⟨[.int 4, .int (-1), .none, .bool true], rfl, lek rfl, wa_nil ⟨p, _, rfl, hb, lek rfl, lek rfl, fun y hy => ?_⟩⟩))))⟩))))))))))))
    have by4 : belowB y 4 = false := by
      rcases List.mem_cons.mp hy with rfl | hy
      · rfl
      rcases List.mem_cons.mp hy with rfl | hy
      · rfl
      rcases List.mem_cons.mp hy with rfl | hy
      · rfl
      rw [List.mem_singleton.mp hy]
      rfl
    have no : ∀ (m : Nat), y = .int (m : Nat) → m ≤ 3 → False := fun m e1 e2 => by
      have : belowB (.int (m : Nat)) 4 = true := by
        show (decide ((0 : Int) ≤ (m : Nat)) && decide (((m : Nat) : Int) < 4)) = true
        rw [decide_eq_true (by omega), decide_eq_true (by omega)]
        rfl
      rw [← e1, by4] at this
      cases this
    refine wa_cons (w_non (wa_nil ⟨(y, .none), rfl, rfl, fun z => ?_, fun x hx => ?_, fun ex hex => ?_⟩))
    · have z' : belowB y 4 = true := z
      rw [by4] at z'
      cases z'
    · obtain ⟨m, ps, e1, e2, _⟩ := hx
      exact (no m e1 e2).elim
    · rcases hex with ⟨_, rfl⟩ | ⟨m, k, e1, e2, _⟩
      · exact hE _ _ (.inr (.inr ⟨_, rfl, rfl⟩)) (.self (by decide +kernel))
      · exact (no m e1 e2).elim
  rcases List.mem_cons.mp he with rfl | he
  · refine w_call (wa_cons (w_var h11 (wa_cons (w_of_wf (wf_cat (w_var h12 (w_of_wf (wf_lst (wa_cons (w_tup (wa_cons (w_tup (wa_cons (w_add (w_var h11 (w_int ⟨(n : Nat), 1, rfl, rfl, wa_nil ⟨[.int ((n : Int) + 1)], rfl, lek rfl, wa_cons (w_tup (wa_nil ⟨[], rfl, lek rfl, wa_nil ⟨[.tuple [.int ((n : Int) + 1)], .tuple []], rfl, lek rfl, wa_nil ⟨_, rfl, lek rfl, _, _, rfl, rfl, ?_, ?_⟩⟩⟩))⟩⟩))))))))))))))))
    · simp only [List.length_map, List.length_cons, List.length_nil]
      omega
    have nd : needD (n : Nat) (.list (told.map pmD ++ [.tuple [.tuple [.int ((n : Int) + 1)], .tuple []]])) = .inl ((told.length : Nat) : Int) := by
      show needGo (n : Nat) 0 _ = _
      rw [need_bad (prem_out n) ht, Nat.zero_add]
    refine wa_nil ⟨(.int (n : Nat), .list (told.map pmD ++ [.tuple [.tuple [.int ((n : Int) + 1)], .tuple []]])), rfl, rfl, fun _ ds eds => ?_, fun x hx => ?_, fun ex hex => ?_⟩
    · cases eds
      refine ⟨fun x hx => ?_, by simp only [List.length_append, List.length_map, List.length_cons, List.length_nil]; omega⟩
      rcases List.mem_append.mp hx with hx | hx
      · obtain ⟨q, hq, rfl⟩ := List.mem_map.mp hx
        exact few_dr (ht q hq)
      · rw [List.mem_singleton.mp hx]
        intro ds2 e2 s2 hs2 es2 e3
        cases e2
        rcases List.mem_cons.mp hs2 with rfl | hs2
        · cases e3
          exact lek rfl
        · rw [List.mem_singleton.mp hs2] at e3
          cases e3
          exact lek rfl
    · obtain ⟨m, ps, e1, e2, _, e4, _⟩ := hx
      injection e1 with e1
      have em : m = n := by omega
      rw [em, nd] at e4
      cases e4
    · rcases hex with ⟨e1, _⟩ | ⟨m, k, e1, e2, e4, rfl⟩
      · rw [bn] at e1
        cases e1
      · injection e1 with e1
        have em : m = n := by omega
        rw [em, nd] at e4
        cases e4
        exact hE _ _ (.inl ⟨_, rfl, rfl⟩) (.self (due_int _ lay1 _))
  rcases List.mem_cons.mp he with rfl | he
  · refine w_call (wa_cons (w_var h11 (wa_cons (w_pick (wa_cons (w_var h9 (wa_cons (w_of_wf (wf_lst (wa_cons (w_non (wa_cons (w_int (wa_cons (w_str (wa_nil ⟨[.none, .int 3, .str "|"], rfl, lek rfl, wa_nil ⟨p, _, rfl, hb, lek rfl, lek rfl, fun y hy => ?_⟩⟩))))))))))))))))
    have iy : itemsD y = none := by
      rcases List.mem_cons.mp hy with rfl | hy
      · rfl
      rcases List.mem_cons.mp hy with rfl | hy
      · rfl
      rw [List.mem_singleton.mp hy]
      rfl
    have nd : needD (n : Nat) y = .inl (-1) := by
      unfold needD
      rw [iy]
    refine wa_nil ⟨(.int (n : Nat), y), rfl, rfl, fun _ ds eds => ?_, fun x hx => ?_, fun ex hex => ?_⟩
    · rw [iy] at eds
      cases eds
    · obtain ⟨m, ps, e1, e2, _, e4, _⟩ := hx
      injection e1 with e1
      have em : m = n := by omega
      rw [em] at e4
      replace e4 : needD (n : Nat) y = .inr ps := e4
      rw [nd] at e4
      cases e4
    · rcases hex with ⟨e1, _⟩ | ⟨m, k, e1, e2, e4, rfl⟩
      · rw [bn] at e1
        cases e1
      · injection e1 with e1
        have em : m = n := by omega
        rw [em] at e4
        replace e4 : needD (n : Nat) y = .inl k := e4
        rw [nd] at e4
        cases e4
        exact hE _ _ (.inl ⟨_, rfl, rfl⟩) (.self (by decide +kernel))
  rcases List.mem_cons.mp he with rfl | he
  · refine w_call (wa_cons (w_var h11 (wa_cons (w_of_wf (wf_cat (w_var h10 (w_of_wf (wf_lst (wa_cons (w_catT (w_repT (w_tup (wa_cons (w_int (wa_nil ⟨[.int 2], rfl, lek rfl, w_var h11 ⟨[.int 2], (n : Nat), rfl, rfl, (fun z => by cases z), by omega, by omega, lek rfl, rfl, ?_⟩⟩)))))))))))))))
    rw [twos]
    refine w_tup (wa_cons (w_int (wa_nil ⟨[.int 0], rfl, lek rfl, _, _, rfl, rfl, ?_, wa_nil ⟨_, rfl, lek rfl, _, _, rfl, rfl, ?_, ?_⟩⟩)))
    · simp only [List.length_map, List.length_replicate, List.length_cons, List.length_nil]
      omega
    · simp only [List.length_map, List.length_cons, List.length_nil]
      omega
    have nd : goE (rowI (n : Nat)) 0 (dr.map rowD ++ [.tuple ((List.replicate n 2).map PyData.int ++ [.int 0])]) = .inl ((dr.length : Nat) : Int) := by
      rw [goE_bad (h := fun r => r) (more := []) (row_bad n) fun r hr => (rowI_row (hd r hr).1 (hd r hr).2).1, Nat.zero_add]
    refine wa_nil ⟨(n, .list (dr.map rowD ++ [.tuple ((List.replicate n 2).map PyData.int ++ [.int 0])])), rfl, rfl, ⟨n3, fun ds eds => ?_⟩, fun x hx => ?_, fun ex hex => ?_⟩
    · cases eds
      refine ⟨by simp only [List.length_append, List.length_map, List.length_cons, List.length_nil]; omega, fun d hdd es ees => ?_⟩
      rcases List.mem_append.mp hdd with hdd | hdd
      · obtain ⟨r, hr, rfl⟩ := List.mem_map.mp hdd
        cases ees
        have := (hd r hr).1
        rw [List.length_map]
        omega
      · rw [List.mem_singleton.mp hdd] at ees
        cases ees
        simp only [List.length_append, List.length_map, List.length_replicate, List.length_cons, List.length_nil]
        omega
    · obtain ⟨ds, rs, e1, e2, _⟩ := hx
      cases e1
      replace e2 : goE (rowI (n : Nat)) 0 (dr.map rowD ++ [.tuple ((List.replicate n 2).map PyData.int ++ [.int 0])]) = .inr rs := e2
      rw [nd] at e2
      cases e2
    · rcases hex with ⟨e1, _⟩ | ⟨ds, k, e1, e2, rfl⟩
      · cases e1
      · cases e1
        replace e2 : goE (rowI (n : Nat)) 0 (dr.map rowD ++ [.tuple ((List.replicate n 2).map PyData.int ++ [.int 0])]) = .inl k := e2
        rw [nd] at e2
        cases e2
        exact hE _ _ (.inr (.inl ⟨_, rfl, rfl⟩)) (.self (due_int _ lay2 _))
  · rw [List.mem_singleton.mp he] at hE ⊢
    refine w_call (wa_cons (w_var h11 (wa_cons (w_non (wa_nil ⟨(n, .none), rfl, rfl, ⟨n3, fun ds eds => by cases eds⟩, fun x hx => ?_, fun ex hex => ?_⟩)))))
    · obtain ⟨ds, rs, e1, _⟩ := hx
      cases e1
    · rcases hex with ⟨_, rfl⟩ | ⟨ds, k, e1, _⟩
      · exact hE _ _ (.inr (.inl ⟨_, rfl, rfl⟩)) (.self (by decide +kernel))
      · cases e1
end
end K03

set_option Elab.async false
set_option linter.all false
set_option pp.maxSteps 1500
set_option pp.deepTerms false
set_option maxRecDepth 100000
set_option maxHeartbeats 8000000
namespace K03
open PySem PySem.Spec PyProof.Rows L2 Say LamX
abbrev EF : XK := fun _ _ _ => False
section
variable {P : Program} {w : World} {K : PySem.W.Frag} {mg : Str → Option Value} {base : Heap}
def N_Book___eq__ : List Str := ["self", "other"]
theorem sc_Book___eq__ : FnScope N_Book___eq__ ["self", "other"] (defScope (inClass (top 43) 1)) := ⟨rfl, rfl, rfl, by decide +kernel, rfl, by decide +kernel, by decide +kernel⟩
theorem eq_BookC (T : Tx K mg) : ∃ fd, FnOk P w K mg base CX0 1 (He.ma K (He.ga K "Book") "__eq__") fd ["self", "other"] (spEqC (RBkC K (He.ga K "Book"))) ∧ Binds K fd ["self", "other"] [] := by
  obtain ⟨fd, F⟩ := T.F_Book___eq__
  refine ⟨fd, ?_, F.bindsN fun _ _ _ _ _ _ us hl => match us, hl with | [_, _], _ => rfl⟩
  refine F.ok sc_Book___eq__ (fun vs H Q E h => ?_) (fun cdv A ou s H vs Q E hr h => have hun := room65 hr; ?_)
  · obtain ⟨a, b, c, rfl, _⟩ := h
    rfl
  · obtain ⟨a, b, c, rfl, ⟨dx, dy, us, vs, ms, rs, ns, qs, h1, h2, h3, h4, sh, sh2, rfl⟩, k⟩ := h
    obtain ⟨x1, g1, g3⟩ := fdAll_get (f := "makers") (y := .pt (ms.map mkD)) h3 rfl
    obtain ⟨y1, g2, g4⟩ := fdAll_get (f := "makers") (y := .pt (ns.map mkD)) h4 rfl
    obtain ⟨x2, g5, g7⟩ := fdAll_get (f := "rules") (y := .d (.tuple (rs.map rlD))) h3 rfl
    obtain ⟨y2, g6, g8⟩ := fdAll_get (f := "rules") (y := .d (.tuple (qs.map rlD))) h4 rfl
    have ptd : ∀ {v : V} {xs : List PyData}, FdOk K H v (.pt xs) → Dp K H v (.tuple xs) := fun {v xs} z => by
      obtain ⟨p, o, us, rfl, e1, _, e3⟩ := z
      exact .tup (sqt_frz e1) e3
    refine ⟨_, PSs.nox (pss_one (ps_ret (pe_and (pe_callB (show CallR _ _ (rIsi K) from call_isi) (by rfl) T.b_isinstance (by decide +kernel) (pa_cons (pv 1) (pa_cons (pe_glob (by rfl) T.g_Book (show RelV (.ref (He.ga K "Book")) _ from rfl)) pa_nil)))
      (pe_and (pe_cmpR (show OpR _ (compareOp .Eq) (rEqD K) from op_eqD (Nat.lt_of_succ_lt hun)) (pe_fldK K rfl (pv 0) rfl) (pe_fldK K rfl (pv 1) rfl) (nomark _)) (pe_one (pe_cmpR (show OpR _ (compareOp .Eq) (rEqD K) from op_eqD (Nat.lt_of_succ_lt hun)) (pe_fldK K rfl (pv 0) rfl) (pe_fldK K rfl (pv 1) rfl) (nomark _))))))), ?_⟩
    refine ⟨.ref b, rfl, .ref b, .ref (He.ga K "Book"), .ref (He.ga K "Book"), .ref (He.ga K "Book"), true, rfl, .own _, T.y_Book _ b dy vs h2, by unfold PySem.W.kitOne; simp, true, rfl, ?_⟩
    refine ⟨.ref a, rfl, a, He.ga K "Book", dx, us, x1, rfl, h1, T.k_Book, T.a_Book_makers, g1, .ref b, rfl, b, He.ga K "Book", dy, vs, y1, rfl, h2, T.k_Book, T.a_Book_makers, g2, _, _, ptd g3, ptd g4, mks_shaped sh.m, mks_shaped sh2.m, PyData.eqv (.tuple (ms.map mkD)) (.tuple (ns.map mkD)), rfl, ?_⟩
    cases e : PyData.eqv (.tuple (ms.map mkD)) (.tuple (ns.map mkD)) with
    | false =>
      rw [e] at k
      exact k H Ext.rfl'
    | true =>
      rw [e] at k
      exact ⟨.ref a, rfl, a, He.ga K "Book", dx, us, x2, rfl, h1, T.k_Book, T.a_Book_rules, g5, .ref b, rfl, b, He.ga K "Book", dy, vs, y2, rfl, h2, T.k_Book, T.a_Book_rules, g6, _, _, g7, g8, rls_shaped sh.r, rls_shaped sh2.r, k H Ext.rfl'⟩
theorem op_eqBook {X : Cx} {k : Nat} (T : Tx X.K X.mg) (hr : Room (k + 2) X.A) : OpR X (compareOp .Eq) (rOwn false (He.ga X.K "Book") (RBkC X.K (He.ga X.K "Book"))) := by
  obtain ⟨fdE, FE, bE⟩ := eq_BookC (P := X.prog) (w := X.w) (base := X.base) T
  exact op_eqC (E := E0) (n := 1) FE T.h_Book___eq__.at_ T.h_Book___eq__.fn bE pass0 (hr.mono (by omega))
theorem op_neBook {X : Cx} {k : Nat} (T : Tx X.K X.mg) (hr : Room (k + 2) X.A) : OpR X (compareOp .NotEq) (rOwn true (He.ga X.K "Book") (RBkC X.K (He.ga X.K "Book"))) := by
  obtain ⟨fdE, FE, bE⟩ := eq_BookC (P := X.prog) (w := X.w) (base := X.base) T
  exact op_neC (E := E0) (n := 1) ⟨T.ne_Book⟩ T.M_Book.makes FE T.h_Book___eq__.at_ T.h_Book___eq__.fn bE pass0 (hr.mono (by omega))
end
end K03

set_option Elab.async false
set_option linter.all false
set_option pp.maxSteps 1500
set_option pp.deepTerms false
set_option maxRecDepth 100000
set_option maxHeartbeats 8000000
namespace K03
open PySem PySem.Spec PyProof.Rows L2 Say LamX
section
variable {K : PySem.W.Frag} {bx X0 : Addr → Prop} {H0 : Hp} {ρ : Rho} {Φ : Dat → Prop}
abbrev wk (n : Nat) (ps : List Pm) : List (List Int) := (rowsL n).filter fun r => ps.all (holdB r)
/-- prime_premises of what is well formed -/
theorem post_prime {n : Nat} {dl : PyData} {ps : List Pm} (nd : needD n dl = .inr ps) {x : Dat} (h : (f_prime_premises K).post (.int (n : Nat), dl) x) : x = .d (.tuple ((primeL n (wk n ps)).map pmD)) := by
  obtain ⟨m, qs, e1, e2, _, e4, rfl⟩ := h
  injection e1 with e1
  have em : m = n := by omega
  subst em
  replace e4 : needD (m : Nat) dl = .inr qs := e4
  rw [nd] at e4
  injection e4 with e4
  subst e4
  rfl
theorem exn_prime {n : Nat} {dl : PyData} {ps : List Pm} (n3 : n ≤ 3) (nd : needD n dl = .inr ps) {e : Exn} (h : (f_prime_premises K).exn (.int (n : Nat), dl) e) : False := by
  rcases h with ⟨e1, _⟩ | ⟨m, k, e1, e2, e4, _⟩
  · have bn : belowB (.int (n : Nat)) 4 = true := by
      show (decide ((0 : Int) ≤ (n : Nat)) && decide (((n : Nat) : Int) < 4)) = true
      rw [decide_eq_true (by omega), decide_eq_true (by omega)]
      rfl
    replace e1 : belowB (.int (n : Nat)) 4 = false := e1
    rw [bn] at e1
    cases e1
  · injection e1 with e1
    have em : m = n := by omega
    subst em
    replace e4 : needD (m : Nat) dl = .inl k := e4
    rw [nd] at e4
    cases e4
theorem w_primeC {n : Nat} {tn tl : TE} {x : Dat} {dl : PyData} {ps : List Pm} (n3 : n ≤ 3) (hn : ∀ Ψ : Dat → Prop, Ψ (.d (.int (n : Nat))) → W K bx X0 H0 tn ρ Ψ) (hl : ∀ Ψ : Dat → Prop, Ψ x → W K bx X0 H0 tl ρ Ψ) (hx : normD x = .d dl) (ho : isO x = false)
    (nd : needD n dl = .inr ps) (fw : fewAll dl) (q : Φ (.d (.tuple ((primeL n (wk n ps)).map pmD)))) : W K bx X0 H0 (tCall (spA K (f_prime_premises K)) [] EF (tCons tn (tCons tl tNil))) ρ Φ := by
  refine w_call (wa_cons (hn _ (wa_cons (hl _ (wa_nil ⟨(.int (n : Nat), dl), ?_, ?_, fun _ => fw, fun y hy => ?_, fun e he => (exn_prime n3 nd he).elim⟩)))))
  · show [Dat.d _, normD x] = [Dat.d _, Dat.d dl]
    rw [hx]
  · show (true && (!isO x && true)) = true
    rw [ho]
    rfl
  · rw [post_prime nd hy]
    exact q
theorem few_pms {n : Nat} {ps : List Pm} (h : ∀ q ∈ ps, DrP n q) (l : ps.length ≤ 200) : fewAll (.list (ps.map pmD)) := fun ds e => by
  cases e
  refine ⟨fun x hx => ?_, by rw [List.length_map]; exact l⟩
  obtain ⟨q, hq, rfl⟩ := List.mem_map.mp hx
  exact few_dr (h q hq)
theorem few_gvs {n : Nat} {ps : List Pm} (h : ∀ q ∈ ps, DrP n q) (l : ps.length ≤ 200) : fewAll (.list (ps.map gvD)) := fun ds e => by
  cases e
  refine ⟨fun x hx => ?_, by rw [List.length_map]; exact l⟩
  obtain ⟨q, hq, rfl⟩ := List.mem_map.mp hx
  exact few_drL (h q hq)
theorem dr_bd {n : Nat} {ps : List Pm} (h : ∀ q ∈ ps, DrP n q) : ∀ p ∈ ps, (∀ x ∈ p.1 ++ p.2, 1 ≤ x ∧ x ≤ (n : Int)) ∧ p.1.length ≤ 100 ∧ p.2.length ≤ 100 := fun p hp => by
  have z := h p hp
  have := z.l1
  have := z.l2
  exact ⟨z.rg, by omega, by omega⟩
theorem wk_len {n : Nat} (n3 : n ≤ 3) (P : List Int → Bool) : ((rowsL n).filter P).length ≤ 8 := by
  refine Nat.le_trans (List.length_filter_le _ _) ?_
  rw [rowsL_len]
  exact pow2_8 n3
theorem ints_dp {C : Hp} : ∀ ns : List Int, DpAll K C (ns.map V.int) (ns.map PyData.int)
  | [] => .nil
  | n :: ns => .cons (.int n) (ints_dp ns)
end
/-! the book of the law -/
noncomputable def itR (a b : List Pm) : List Rl := [(("it" : Str), ("left" : Str), a), (("it" : Str), ("right" : Str), b)]
theorem side_lay2 {x : Str} (h : x = ("left" : Str) ∨ x = ("right" : Str)) : PyData.canLay0 (.str x) = true := by
  rcases h with rfl | rfl <;> decide +kernel
theorem it_ok {n : Nat} (n3 : n ≤ 3) : MksOk [(("it" : Str), n)] := ⟨fun m hm => by rw [List.mem_singleton.mp hm]; exact ⟨it_name.1, it_name.2.1, n3⟩, List.pairwise_singleton _ _, by show 1 ≤ 12; decide⟩
theorem it_bk {n : Nat} (n3 : n ≤ 3) {a b : List Pm} (ha : ∀ q ∈ a, DrP n q) (hb : ∀ q ∈ b, DrP n q) (la : a.length ≤ 100) (lb : b.length ≤ 100) : BkOk [(("it" : Str), n)] (itR a b) ∧ (∀ r ∈ itR a b, r.2.1 = ("left" : Str) ∨ r.2.1 = ("right" : Str)) ∧ BkSh [(("it" : Str), n)] (itR a b) := by
  refine ⟨⟨List.pairwise_singleton _ _, by show 2 ≤ 60; decide, fun r hr => ?_⟩, fun r hr => ?_, ⟨fun m hm => by rw [List.mem_singleton.mp hm]; exact it_name.2.2, fun r hr => ?_⟩⟩
  · rcases List.mem_cons.mp hr with rfl | hr
    · exact ⟨n, List.mem_singleton.mpr rfl, n3, dr_bd ha, la⟩
    · rw [List.mem_singleton.mp hr]
      exact ⟨n, List.mem_singleton.mpr rfl, n3, dr_bd hb, lb⟩
  · rcases List.mem_cons.mp hr with rfl | hr
    · exact .inl rfl
    · rw [List.mem_singleton.mp hr]
      exact .inr rfl
  · rcases List.mem_cons.mp hr with rfl | hr
    · exact ⟨it_name.2.2, side_lay2 (.inl rfl)⟩
    · rw [List.mem_singleton.mp hr]
      exact ⟨it_name.2.2, side_lay2 (.inr rfl)⟩
theorem it_pl (n : Nat) : plOf [(("it" : Str), n)] "it" = n := plOf_mem (ms := [(("it" : Str), n)]) (List.pairwise_singleton _ _) (List.mem_singleton.mpr rfl)
theorem it_prime (n : Nat) (a b : List Pm) : (itR a b).map (primeR [(("it" : Str), n)]) = itR (primeL n (wk n a)) (primeL n (wk n b)) := by
  show [primeR [(("it" : Str), n)] ("it", "left", a), primeR [(("it" : Str), n)] ("it", "right", b)] = _
  unfold primeR
  show [(_, _, primeL (plOf _ "it") ((rowsL (plOf _ "it")).filter _)), (_, _, primeL (plOf _ "it") ((rowsL (plOf _ "it")).filter _))] = _
  rw [it_pl]
  rfl
theorem wk_sort (n : Nat) (ps : List Pm) : wk n (sortP ps) = wk n ps := List.filter_congr fun r _ => all_congr (fun _ => mem_sortP) r
end K03

set_option Elab.async false
set_option linter.all false
set_option pp.maxSteps 1500
set_option pp.deepTerms false
set_option maxRecDepth 100000
set_option maxHeartbeats 16000000
namespace K03
open PySem PySem.Spec PyProof.Rows L2 Say LamX
theorem noO_get {ρ : Rho} (h : ρ.all (fun e => !dO e) = true) (j : Nat) (x : Dat) (e : ρ[j]? = some (some x)) : isO x = false := by
  have := List.all_eq_true.mp h _ (List.mem_of_getElem? e)
  have h2 : (!isO x) = true := this
  cases c : isO x with
  | false => rfl
  | true => rw [c] at h2; cases h2
section
variable {P : Program} {w : World} {K : PySem.W.Frag} {mg : Str → Option Value} {base : Heap}
theorem law_body (T : Tx K mg) (TB : TabB base mg (He.cT K pLaw).1 (He.cT K pLaw).2) {A : Around} {ou : List Env} {s : Shared} {H : Hp} {a : Addr} {ns : List Int} {Q : VK} {E : XK}
    (hr : Room 8 (A.deeper (envOfC ("law" : Str) (defScope (top 66)) s.heap.objs.size (He.ga K "law") (.ref (He.codeOf K pLaw))))) (hg : A.guards = some []) (hS : SqL K H a (ns.map V.int)) (hT : Tb (He.cT K pLaw).2 qLam H) (q : ∀ H', Q (.bl true) H') :
    ∃ t, PSs (cxOf CX0 P w K mg base N_law ("law" : Str) (defScope (top 66)) (He.ga K "law") (.ref (He.codeOf K pLaw)) A ou s H E) (defBody (top 66)) t ∧ t { nx := fun _ H' => Q .non H', rt := Q } (start N_law [.ref a]) H := by
  have hun := room65 hr
  obtain ⟨fdE, FE⟩ := T.F__law_error
  have bE : L2.Binds K fdE ["work"] [] := FE.bindsN fun _ _ _ _ _ _ us hl => match us, hl with | [_], _ => rfl
  refine ⟨_, (PSs.nox (pss_cons (ps_if (PW.pt (pw_or (pt_cmpR (show OpR _ (compareOp .NotEq) (rNeD K) from op_neD (Nat.lt_of_succ_lt hun)) (pe_gd (E := EF) (gk_prime_premises T) (hr.mono (by decide)) rfl T.g_prime_premises (passes_call LamX.takes0 fun _ _ _ _ z => z) (pa_cons pe_int (pa_cons (pe_lst (pa_cons (pe_tup (pa_cons (pe_tup pa_nil) (pa_cons (pe_tup (pa_cons pe_int (pa_cons pe_int pa_nil))) pa_nil))) (pa_cons (pe_tup (pa_cons (pe_tup (pa_cons pe_int pa_nil)) (pa_cons (pe_tup (pa_cons pe_int pa_nil)) pa_nil))) pa_nil))) pa_nil))) (pe_tup (pa_cons (pe_tup (pa_cons (pe_tup pa_nil) (pa_cons (pe_tup (pa_cons pe_int pa_nil)) pa_nil))) pa_nil)) (nomark _)) (pw_or1 (pt_cmpR (show OpR _ (compareOp .NotEq) (rNeD K) from op_neD (Nat.lt_of_succ_lt hun)) (pe_gd (E := EF) (gk_prime_premises T) (hr.mono (by decide)) rfl T.g_prime_premises (passes_call LamX.takes0 fun _ _ _ _ z => z) (pa_cons pe_int (pa_cons (pe_lst (pa_cons (pe_tup (pa_cons (pe_tup (pa_cons pe_int pa_nil)) (pa_cons (pe_tup pa_nil) pa_nil))) (pa_cons (pe_tup (pa_cons (pe_tup pa_nil) (pa_cons (pe_tup (pa_cons pe_int pa_nil)) pa_nil))) pa_nil))) pa_nil))) (pe_tup (pa_cons (pe_tup (pa_cons (pe_tup pa_nil) (pa_cons (pe_tup pa_nil) pa_nil))) pa_nil)) (nomark _)))))
      (pss_one (ps_ret pe_bl))
      pss_nil)
      (pss_cons (ps_for PassesOwn.never rfl (pi_range1 (by rfl) T.b_range (pa_cons pe_int pa_nil)) (pg_name (i := 1) sc_law.nd rfl (Or.inl rfl))
      (pss_cons (ps_set (i := 9) sc_law.nd rfl (Or.inr rfl) (pe_gd (ok_box T) (hr.mono (by decide)) rfl T.g__law_box pass0 (pa_cons (pv 0) (pa_cons (pv 1) pa_nil))))
      (pss_cons (ps_set (i := 11) sc_law.nd rfl (Or.inr rfl) (pe_gd (ok_pick T) (hr.mono (by decide)) rfl T.g__law_pick pass0 (pa_cons (pv 9) (pa_cons (pe_ifExp (pt_cmpR op_eq (pv 1) pe_int (nomark _)) (pe_lst (pa_cons pe_int (pa_cons pe_int (pa_cons pe_int (pa_cons pe_int (pa_cons pe_int pa_nil)))))) (pe_lst (pa_cons pe_int (pa_cons pe_int (pa_cons pe_int pa_nil))))) pa_nil))))
      (pss_cons (ps_set (i := 12) sc_law.nd rfl (Or.inr rfl) (pe_lc (own := [("premise", 13)]) (g := gName 13) (tt := tYes) rfl sc_law.nd (pi_range1 (by rfl) T.b_range (pa_cons (pe_gd (ok_take T) (hr.mono (by decide)) rfl T.g__law_take pass0 (pa_cons (pv 9) (pa_cons pe_int pa_nil))) pa_nil)) (blkOk_by (N := N_law) (sc := defScope (top 66)) (by decide +kernel)) (fun _ _ _ _ _ => (pg_name (i := 13) sc_law.nd rfl (by first | exact Or.inl rfl | exact Or.inr rfl))) (fun _ _ _ _ _ => pts_nil) (fun _ _ _ _ _ => (pe_gd (gl_premise T) (hr.mono (by decide)) rfl T.g__law_premise pass0 (pa_cons (pv 9) (pa_cons (pv 11) pa_nil))))))
      (pss_cons (ps_set (i := 2) sc_law.nd rfl (Or.inl rfl) (pe_ifExp (pt_cmpR op_eq (pe_gd (ok_take T) (hr.mono (by decide)) rfl T.g__law_take pass0 (pa_cons (pv 9) (pa_cons pe_int pa_nil))) pe_int (nomark _)) (pe_op op_cat (pe_slice (show SlR _ (rSlL K) from sl_list) (pv 12) (po_some pe_int) po_none) (pe_lst (pa_cons (pe_gd (gl_premise T) (hr.mono (by decide)) rfl T.g__law_premise pass0 (pa_cons (pv 9) (pa_cons (pv 11) pa_nil))) pa_nil))) (pe_op op_cat (pv 12) (pe_op op_rep (pe_lst (pa_cons (pe_tup (pa_cons (pe_tup (pa_cons pe_int pa_nil)) (pa_cons (pe_tup (pa_cons pe_int pa_nil)) pa_nil))) pa_nil)) (pe_callTy call_int1 (by rfl) T.b_int (by decide +kernel) (pa_cons (pe_cmpR op_gt (pv 11) pe_int (nomark _)) pa_nil))))))
      (pss_cons (ps_setLc (i := 3) (own := [("premise", 13)]) (g := gName 13) (tt := tYes) rfl sc_law.nd rfl rfl (sw_true rfl rfl rfl (by decide +kernel)) (pi_sq (pe_op op_cat (pv 12) (pe_slice (show SlR _ (rSlL K) from sl_list) (pv 12) po_none (po_some pe_int)))) (blkOk_by (N := N_law) (sc := defScope (top 66)) (by decide +kernel)) (fun _ _ _ _ _ => (pg_name (i := 13) sc_law.nd rfl (by first | exact Or.inl rfl | exact Or.inr rfl))) (fun _ _ _ _ _ => pts_nil) (fun _ _ _ _ _ => (pe_lc (own := [("side", 14)]) (g := gName 14) (tt := tYes) rfl sc_law.nd (pi_sqK K rfl (pv 13)) (blkOk_by (N := N_law) (sc := ({ kind := .function, names := [(".0", .local), ("premise", .local)], isGenerator := false, isCoroutine := false } : Scope)) (by decide +kernel)) (fun _ _ _ _ _ => (pg_name (i := 14) sc_law.nd rfl (by first | exact Or.inl rfl | exact Or.inr rfl))) (fun _ _ _ _ _ => pts_nil) (fun _ _ _ _ _ => (pe_callTy (show CallR _ _ (rLstO K) from call_list_of) (by rfl) T.b_list (by decide +kernel) (pa_cons (pv 14) pa_nil))))))
      (pss_cons (ps_set (i := 4) sc_law.nd rfl (Or.inl rfl) (pe_prime_premisesK (E := EF) (passes_call LamX.takes0 fun _ _ _ _ z => z) T (hr.mono (by decide)) rfl (pk_cons (pv 3) (pk_cons (pv 11) pk_nil))))
      (pss_cons (ps_expr (pe_bm0 PySem.F.plainAttrs_list PySem.F.slot_list_clear PySem.F.type_list_clear mt_clear (pv 3)))
      (pss_cons (ps_par (i := 5) (j := 6) (by rfl) sc_law.nd rfl rfl (by decide) rfl rfl (pa_cons (pe_gd (gl_awake T) (hr.mono (by decide)) rfl T.g__law_awake pass0 (pa_cons (pv 11) (pa_cons (pv 12) pa_nil))) (pa_cons (pe_gd (gl_awake T) (hr.mono (by decide)) rfl T.g__law_awake pass0 (pa_cons (pv 11) (pa_cons (pv 2) pa_nil))) pa_nil)) (by rfl))
      (pss_cons (ps_if (PW.pt (pw_or (pt_cmpR (show OpR _ (compareOp .NotEq) (rNeD K) from op_neD (Nat.lt_of_succ_lt hun)) (pv 4) (pe_gd (gl_prime T) (hr.mono (by decide)) rfl T.g__law_prime pass0 (pa_cons (pv 11) (pa_cons (pv 5) pa_nil))) (nomark _)) (pw_or1 (pt_cmpR (show OpR _ (compareOp .NotEq) (rNeD K) from op_neD (Nat.lt_of_succ_lt hun)) (pe_gd (gl_awake T) (hr.mono (by decide)) rfl T.g__law_awake pass0 (pa_cons (pv 11) (pa_cons (pv 4) pa_nil))) (pv 5) (nomark _)))))
      (pss_one (ps_ret pe_bl))
      pss_nil)
      (pss_cons (ps_if (pt_cmpR op_ne (pe_cmpR (show OpR _ (compareOp .Eq) (rEqD K) from op_eqD (Nat.lt_of_succ_lt hun)) (pe_gd (E := EF) (gk_prime_premises T) (hr.mono (by decide)) rfl T.g_prime_premises (passes_call LamX.takes0 fun _ _ _ _ z => z) (pa_cons (pv 11) (pa_cons (pv 2) pa_nil))) (pv 4) (nomark _)) (pe_cmpR (show OpR _ (compareOp .Eq) (rEqD K) from op_eqD (Nat.lt_of_succ_lt hun)) (pv 6) (pv 5) (nomark _)) (nomark _))
      (pss_one (ps_ret pe_bl))
      pss_nil)
      (pss_cons (ps_set (i := 10) sc_law.nd rfl (Or.inr rfl) (pe_lc (own := [("row", 15)]) (g := gName 15) rfl sc_law.nd (pi_sq (pe_gd (gl_rows T) (hr.mono (by decide)) rfl T.g__law_rows pass0 (pa_cons (pv 11) pa_nil))) (blkOk_by (N := N_law) (sc := defScope (top 66)) (by decide +kernel)) (fun _ _ _ _ _ => (pg_name (i := 15) sc_law.nd rfl (by first | exact Or.inl rfl | exact Or.inr rfl))) (fun _ _ _ _ _ => (pts_one (pt_cmpR op_eq (pe_gd (ok_take T) (hr.mono (by decide)) rfl T.g__law_take pass0 (pa_cons (pv 9) (pa_cons pe_int pa_nil))) pe_int (nomark _)))) (fun _ _ _ _ _ => (pv 15))))
      (pss_cons (ps_if (pt_cmpR (show OpR _ (compareOp .NotEq) (rNeD K) from op_neD (Nat.lt_of_succ_lt hun)) (pe_rows_premisesK (E := EF) (passes_call LamX.takes0 fun _ _ _ _ z => z) T (hr.mono (by decide)) rfl (pk_cons (pe_lc (own := [("row", 15)]) (g := gName 15) (tt := tYes) rfl sc_law.nd (pi_sq (pe_revLK K rfl (pv 10))) (blkOk_by (N := N_law) (sc := defScope (top 66)) (by decide +kernel)) (fun _ _ _ _ _ => (pg_name (i := 15) sc_law.nd rfl (by first | exact Or.inl rfl | exact Or.inr rfl))) (fun _ _ _ _ _ => pts_nil) (fun _ _ _ _ _ => (pe_callTy (show CallR _ _ (rLstO K) from call_list_of) (by rfl) T.b_list (by decide +kernel) (pa_cons (pv 15) pa_nil)))) (pk_cons (pv 11) pk_nil))) (pe_gd (gl_prime T) (hr.mono (by decide)) rfl T.g__law_prime pass0 (pa_cons (pv 11) (pa_cons (pv 10) pa_nil))) (nomark _))
      (pss_one (ps_ret pe_bl))
      pss_nil)
      (pss_cons (ps_set (i := 7) sc_law.nd rfl (Or.inl rfl) (pe_gd (E := EF) (gk_prime_book T) (hr.mono (by decide)) rfl T.g_prime_book (passes_call LamX.takes0 fun _ _ _ _ z => z) (pa_cons (pe_giK (E := EF) K rfl (gi_Book T) (hr.mono (by decide)) rfl T.g_Book T.M_Book (passes_call LamX.takes0 fun _ _ _ _ z => z) (pa_cons (pe_lst (pa_cons (pe_tup (pa_cons pe_str (pa_cons (pv 11) pa_nil))) pa_nil)) (pa_cons (pe_lst (pa_cons (pe_tup (pa_cons pe_str (pa_cons pe_str (pa_cons (pv 12) pa_nil)))) (pa_cons (pe_tup (pa_cons pe_str (pa_cons pe_str (pa_cons (pv 2) pa_nil)))) pa_nil))) pa_nil))) pa_nil)))
      (pss_cons (ps_if (pt_cmpR (show OpR _ (compareOp .NotEq) (rNeD K) from op_neD (Nat.lt_of_succ_lt hun)) (pe_fld (pv 7) rfl) (pe_tup (pa_cons (pe_tup (pa_cons pe_str (pa_cons pe_str (pa_cons (pv 4) pa_nil)))) (pa_cons (pe_tup (pa_cons pe_str (pa_cons pe_str (pa_cons (pe_gd (gl_prime T) (hr.mono (by decide)) rfl T.g__law_prime pass0 (pa_cons (pv 11) (pa_cons (pv 6) pa_nil))) pa_nil)))) pa_nil))) (nomark _))
      (pss_one (ps_ret pe_bl))
      pss_nil)
      (pss_cons (ps_if (PW.pt (pw_or (pt_cmpR (show OpR _ (compareOp .NotEq) (rNeD K) from op_neD (Nat.lt_of_succ_lt hun)) (pe_gd (E := EF) (gk_awake_rows T) (hr.mono (by decide)) rfl T.g_awake_rows (passes_call LamX.takes0 fun _ _ _ _ z => z) (pa_cons (pv 7) (pa_cons pe_int pa_nil))) (pe_callTy (show CallR _ _ (rTup K) from call_tuple_of) (by rfl) T.b_tuple (by decide +kernel) (pa_cons (pv 5) pa_nil)) (nomark _)) (pw_or1 (pt_cmpR (op_neBook T hr) (pe_prime_bookK (E := EF) (passes_call LamX.takes0 fun _ _ _ _ z => z) T (hr.mono (by decide)) rfl (pk_cons (pv 7) pk_nil)) (pv 7) (nomark _)))))
      (pss_one (ps_ret pe_bl))
      pss_nil)
      (pss_cons (ps_set (i := 8) sc_law.nd rfl (Or.inl rfl) (pe_lst (pa_cons (pe_tup (pa_cons (pe_lamW (b := lm1) TB rfl ls1) (pa_cons (pe_tup (pa_cons pe_str (pa_cons pe_str pa_nil))) pa_nil))) pa_nil)))
      (pss_cons (ps_expr (pe_bm PySem.F.plainAttrs_list PySem.F.slot_list_append PySem.F.type_list_append mt_append (pv 8) (pa_cons (pe_tup (pa_cons (pe_lamW (b := lm2) TB rfl ls2) (pa_cons (pe_tup (pa_cons pe_str (pa_cons (pe_callB (show CallR _ _ (rLenQ K) from call_len_seq) (by rfl) T.b_len PySem.boot_len (pa_cons (pv 12) pa_nil)) pa_nil))) pa_nil))) pa_nil)))
      (pss_cons (ps_expr (pe_bm PySem.F.plainAttrs_list PySem.F.slot_list_append PySem.F.type_list_append mt_append (pv 8) (pa_cons (pe_tup (pa_cons (pe_lamW (b := lm3) TB rfl ls3) (pa_cons (pe_tup (pa_cons pe_str (pa_cons (pe_un un_neg pe_int) pa_nil))) pa_nil))) pa_nil)))
      (pss_cons (ps_expr (pe_bm PySem.F.plainAttrs_list PySem.F.slot_list_append PySem.F.type_list_append mt_append (pv 8) (pa_cons (pe_tup (pa_cons (pe_lamW (b := lm4) TB rfl ls4) (pa_cons (pe_tup (pa_cons pe_str (pa_cons (pe_callB (show CallR _ _ (rLenQ K) from call_len_seq) (by rfl) T.b_len PySem.boot_len (pa_cons (pv 10) pa_nil)) pa_nil))) pa_nil))) pa_nil)))
      (pss_cons (ps_expr (pe_bm PySem.F.plainAttrs_list PySem.F.slot_list_append PySem.F.type_list_append mt_append (pv 8) (pa_cons (pe_tup (pa_cons (pe_lamW (b := lm5) TB rfl ls5) (pa_cons (pe_tup (pa_cons pe_str (pa_cons (pe_un un_neg pe_int) pa_nil))) pa_nil))) pa_nil)))
      (pss_one (ps_if (pt_cmpR (show OpR _ (compareOp .NotEq) (rNeD K) from op_neD (Nat.lt_of_succ_lt hun)) (pe_lcD (own := [("work", 16), ("due", 17)]) (tt := fun σ => tTest (tOp (rNeD K) (tGivS (XL P w K mg base A ou s H E) σ lms (lmT K) (HeardT K (hrd K)) (tVar 16)) (tVar 17))) rfl sc_law.nd (pi_sq (pv 8)) (blkOk_by (N := N_law) (sc := defScope (top 66)) (by decide +kernel))
                (fun _ _ _ _ _ => (pg_tupK (n := 2) K rfl (by rfl) (pgs_cons (pg_name (i := 16) sc_law.nd rfl (by first | exact Or.inl rfl | exact Or.inr rfl)) (pgs_cons (pg_name (i := 17) sc_law.nd rfl (by first | exact Or.inl rfl | exact Or.inr rfl)) pgs_nil))))
                (fun pins σ z G C cl fp mine => pts_one (pt_cmpR (show OpR _ (compareOp .NotEq) (rNeD K) from op_neD (Nat.lt_of_succ_lt hun)) (pe_givS mine FE bE sc_error rfl (Or.inl rfl) (gives_error T rfl rfl) (hr.mono (by decide)) rfl T.g__law_error (lms_ok T) (pv 16)) (pv 17) (nomark _)))
                (fun _ _ _ _ _ => (pv 16))) (pe_lst pa_nil) (nomark _))
      (pss_one (ps_ret pe_bl))
      pss_nil)))))))))))))))))))))))
      (pss_one (ps_ret (pe_or (pe_cmpR (show OpR _ (compareOp .NotEq) (rNeD K) from op_neD (Nat.lt_of_succ_lt hun)) (pv 0) (pe_lst pa_nil) (nomark _)) (pe_one (pe_cmpR (show OpR _ (compareOp .Eq) (rEqD K) from op_eqD (Nat.lt_of_succ_lt hun)) (pe_lc (own := [("size", 18)]) (g := gName 18) (tt := tYes) rfl sc_law.nd (pi_range1 (by rfl) T.b_range (pa_cons pe_int pa_nil)) (blkOk_by (N := N_law) (sc := defScope (top 66)) (by decide +kernel)) (fun _ _ _ _ _ => (pg_name (i := 18) sc_law.nd rfl (by first | exact Or.inl rfl | exact Or.inr rfl))) (fun _ _ _ _ _ => pts_nil) (fun _ _ _ _ _ => (pe_lenSetN K rfl (by rfl) hun rfl T.b_len rfl T.b_set (pe_lc (own := [("lot", 19)]) (g := gName 19) (tt := tYes) rfl sc_law.nd (pi_sqK K rfl (pe_gd (gl_lots T) (hr.mono (by decide)) rfl T.g__law_lots pass0 (pa_cons (pe_gd (gl_rows T) (hr.mono (by decide)) rfl T.g__law_rows pass0 (pa_cons (pv 18) pa_nil)) pa_nil))) (blkOk_by (N := N_law) (sc := ({ kind := .function, names := [(".0", .local), ("size", .cell), ("len", .globalImplicit), ("set", .globalImplicit), ("_law_lots", .globalImplicit), ("_law_rows", .globalImplicit)], isGenerator := false, isCoroutine := false } : Scope)) (by decide +kernel)) (fun _ _ _ _ _ => (pg_name (i := 19) sc_law.nd rfl (by first | exact Or.inl rfl | exact Or.inr rfl))) (fun _ _ _ _ _ => pts_nil) (fun _ _ _ _ _ => (pe_gd (gl_prime T) (hr.mono (by decide)) rfl T.g__law_prime pass0 (pa_cons (pv 18) (pa_cons (pv 19) pa_nil)))))))) (pe_lst (pa_cons pe_int (pa_cons pe_int (pa_cons pe_int pa_nil)))) (nomark _))))))))), ?_⟩
  have dS : Dp K (core (fun _ => False) H) (.ref a) (.list (ns.map PyData.int)) := by
    refine .lst ?_ (ints_dp ns)
    rcases hS with (h | ⟨o, h⟩) | h
    · exact .inl (.inl (core_of (fun z => z) h fun ps z => by cases z))
    · exact .inl (.inr ⟨o, core_of (fun z => z) h fun ps z => by cases z⟩)
    · exact .inr h
  have e0 : EnX (fun _ => False) (fun _ => False) H (fun _ => False) H := ⟨fun _ z => z, fun _ z => z.elim, fun _ z => z.elim, fun _ z => z, .refl H⟩
  have s0 := sx_start (K := K) (N := N_law) (n := 19) e0 (.cons (ok_d dS) .nil) (fun x hx => by rw [List.mem_singleton.mp hx]; rfl) rfl
  refine WS.run (R := fun y => y = .d (.bool true)) (N := fun _ => False) (B := fun _ => False) (C := fun _ => False) ?_ _ _ _ _ s0 _ (fun _ _ _ _ z => z.elim) (fun y v H' hR e' dv => ?_) (fun _ _ _ _ z => z.elim) (fun _ _ _ _ z => z.elim)
  rotate_left
  · subst hR
    cases dv
    exact q H'
  have tt3 : SeqAt.shaped (.tuple [.tuple [.tuple [], .tuple [.int 2]]]) = true := by decide +kernel
  have tt4 : SeqAt.shaped (.tuple [.tuple [.tuple [], .tuple []]]) = true := by decide +kernel
  refine ws_seq (ws_if (WT.mono (Φ := fun b => b = false) ?_ fun b e => ⟨fun z => (by rw [e] at z; cases z), fun _ => ?_⟩))
  · refine wt_or (wt_test (w_neD (w_primeC (n := 2) (ps := [([], [1, 2]), ([1], [2])]) (x := .ls [pmD ([], [1, 2]), pmD ([1], [2])]) (by decide) (fun Ψ z => w_int z) (fun Ψ z => ?_) rfl rfl rfl (fun ds e => ?_) ?_)))
    · refine w_of_wf (wf_lst ?_)
      repeat (first
          | refine wa_cons (w_int ?_)
          | refine wa_cons (w_str ?_)
          | refine wa_cons (w_tup ?_)
          | refine wa_nil ⟨_, rfl, lek rfl, ?_⟩)
      exact z
    · cases e
      refine ⟨fun x hx => ?_, by decide⟩
      rcases List.mem_cons.mp hx with rfl | hx
      · exact few_dr (n := 2) ⟨by decide, by decide, by decide, by decide, by decide⟩
      · rw [List.mem_singleton.mp hx]
        exact few_dr (n := 2) ⟨by decide, by decide, by decide, by decide, by decide⟩
    rw [show wk 2 [([], [1, 2]), ([1], [2])] = (rowsL 2).filter (fun r => ([([], [1, 2]), ([1], [2])] : List Pm).all (holdB r)) from rfl, anchor1]
    refine w_tup ?_
    repeat (first
          | refine wa_cons (w_int ?_)
          | refine wa_cons (w_str ?_)
          | refine wa_cons (w_tup ?_)
          | refine wa_nil ⟨_, rfl, lek rfl, ?_⟩)
    refine ⟨_, _, rfl, rfl, tt3, tt3, _, rfl, fun c => ?_, fun _ => ?_⟩
    · have : PyData.eqv (.tuple [.tuple [.tuple [], .tuple [.int 2]]]) (.tuple [.tuple [.tuple [], .tuple [.int 2]]]) = true := eqv_self tt3
      have c' : (!PyData.eqv (.tuple [.tuple [.tuple [], .tuple [.int 2]]]) (.tuple [.tuple [.tuple [], .tuple [.int 2]]])) = true := c
      rw [this] at c'
      cases c'
    refine wt_test (w_neD (w_primeC (n := 1) (ps := [([1], []), ([], [1])]) (x := .ls [pmD ([1], []), pmD ([], [1])]) (by decide) (fun Ψ z => w_int z) (fun Ψ z => ?_) rfl rfl rfl (fun ds e => ?_) ?_))
    · refine w_of_wf (wf_lst ?_)
      repeat (first
          | refine wa_cons (w_int ?_)
          | refine wa_cons (w_str ?_)
          | refine wa_cons (w_tup ?_)
          | refine wa_nil ⟨_, rfl, lek rfl, ?_⟩)
      exact z
    · cases e
      refine ⟨fun x hx => ?_, by decide⟩
      rcases List.mem_cons.mp hx with rfl | hx
      · exact few_dr (n := 1) ⟨by decide, by decide, by decide, by decide, by decide⟩
      · rw [List.mem_singleton.mp hx]
        exact few_dr (n := 1) ⟨by decide, by decide, by decide, by decide, by decide⟩
    rw [show wk 1 [([1], []), ([], [1])] = (rowsL 1).filter (fun r => ([([1], []), ([], [1])] : List Pm).all (holdB r)) from rfl, anchor2]
    refine w_tup ?_
    repeat (first
          | refine wa_cons (w_int ?_)
          | refine wa_cons (w_str ?_)
          | refine wa_cons (w_tup ?_)
          | refine wa_nil ⟨_, rfl, lek rfl, ?_⟩)
    refine ⟨_, _, rfl, rfl, tt4, tt4, _, rfl, ?_⟩
    have : PyData.eqv (.tuple [.tuple [.tuple [], .tuple []]]) (.tuple [.tuple [.tuple [], .tuple []]]) = true := eqv_self tt4
    show (!PyData.eqv (.tuple [.tuple [.tuple [], .tuple []]]) (.tuple [.tuple [.tuple [], .tuple []]])) = false
    rw [this]
    rfl
  refine ws_next (ws_seq (ws_forS [1] [1, 2, 3, 4, 5, 6, 7, 8, 9, 10, 11, 12, 13, 14, 15, 16, 17, 18, 19] (wi_r1 (wa_cons (w_int (wa_nil ⟨_, rfl, by decide, by decide, fun _ ρ' => ρ' = [some (.d (.list (ns.map PyData.int))), none, none, none, none, none, none, none, none, none, none, none, none, none, none, none, none, none, none, none], (by kernel_rfl), ?_, ?_⟩))))))
  · rintro i d ρ' hd rfl
    rw [List.getElem?_map] at hd
    obtain ⟨i2, hi2, rfl⟩ := Option.map_eq_some_iff.mp hd
    have i3 : i2 < 2 := List.mem_range.mp (List.mem_of_getElem? hi2)
    refine wg_name (List.mem_singleton.mpr rfl) ?_
    refine ws_box (fun b z => False.elim z) (noO_get rfl) (fun X1 H1 σ1 e1 Q1 k1 => ?_) (fun p X1 H1 s1 xp f1 => ?_)
    · obtain ⟨v0, s0, q0⟩ := e1.at_ 0 (.d (.list (ns.map PyData.int))) rfl
      cases da_d q0 with
      | lst h1 h2 =>
        have e2 := dp_ints h2
        subst e2
        obtain ⟨v2, s2, q2⟩ := e1.at_ 1 (.d (.int (i2 : Nat))) rfl
        cases da_d q2
        exact ⟨_, s0, _, s2, _, ns, i2, rfl, core_le.seq h1, by omega, fun H2 p sm np bp => k1 p H2 (.of sm) np bp⟩
    have hb : (fun b => False ∨ b = p) p := .inr rfl
    have sb1 : ∀ b, False ∨ b = p → X1 b := fun b z => z.elim False.elim fun z => by rw [z]; exact xp
    have hT1 : TabS H1 (He.cT K pLaw).2 qLam := f1.tb _ hT
    refine ws_seq (ws_asg (W.mono (Φ := fun x => ∃ n : Nat, n ≤ 3 ∧ x = .d (.int (n : Nat))) ?_ ?_))
    · refine w_pick (wa_cons (w_var rfl (wa_cons (w_if (wt_test (w_eqI (w_var rfl (w_int ⟨_, _, rfl, rfl, _, rfl, fun _ => ?_, fun _ => ?_⟩))))))))
      · refine w_of_wf (wf_lst ?_)
        repeat (first
        | refine wa_cons (w_int ?_)
        | refine wa_cons (w_str ?_)
        | refine wa_cons (w_tup ?_)
        | refine wa_nil ⟨_, rfl, lek rfl, ?_⟩)
        refine wa_nil ⟨p, _, rfl, hb, lek rfl, lek rfl, fun y hy => ?_⟩
        simp only [List.mem_cons, List.not_mem_nil, or_false] at hy
        rcases hy with rfl | rfl | rfl | rfl | rfl
        · exact ⟨2, by decide, rfl⟩
        · exact ⟨1, by decide, rfl⟩
        · exact ⟨3, by decide, rfl⟩
        · exact ⟨2, by decide, rfl⟩
        · exact ⟨0, by decide, rfl⟩
      · refine w_of_wf (wf_lst ?_)
        repeat (first
        | refine wa_cons (w_int ?_)
        | refine wa_cons (w_str ?_)
        | refine wa_cons (w_tup ?_)
        | refine wa_nil ⟨_, rfl, lek rfl, ?_⟩)
        refine wa_nil ⟨p, _, rfl, hb, lek rfl, lek rfl, fun y hy => ?_⟩
        simp only [List.mem_cons, List.not_mem_nil, or_false] at hy
        rcases hy with rfl | rfl | rfl
        · exact ⟨2, by decide, rfl⟩
        · exact ⟨1, by decide, rfl⟩
        · exact ⟨2, by decide, rfl⟩
    rintro x ⟨n, n3, rfl⟩
    refine ⟨rfl, ?_⟩
    refine ws_seq (ws_asg (W.mono (Φ := fun x => ∃ told : List Pm, x = .ls (told.map pmD) ∧ told.length ≤ 3 ∧ ∀ q ∈ told, DrP n q) ?_ ?_))
    · refine w_of_wf (wf_lcI (wi_r1 (wa_cons (w_take (wa_cons (w_var rfl (wa_cons (w_int (wa_nil ⟨p, 4, rfl, hb, by decide, by decide, fun m m0 m1 => wa_nil ⟨m, rfl, by omega, by omega, fun j out => ∃ ps : List Pm, out = ps.map pmD ∧ ps.length = j ∧ ∀ q ∈ ps, DrP n q, ⟨[], rfl, rfl, (fun q hq => nomatch hq)⟩, ?_, ?_⟩⟩)))))))))
      · rintro j d out hj ⟨ps, rfl, hl, hps⟩
        have jl : j < m.toNat := by
          have := (List.getElem?_eq_some_iff.mp hj).1
          rwa [List.length_map, List.length_range] at this
        refine ⟨by rw [List.length_map]; omega, ?_⟩
        rw [List.getElem?_map] at hj
        obtain ⟨j2, _, rfl⟩ := Option.map_eq_some_iff.mp hj
        refine wg_name (by decide) (wt_yes ⟨fun _ => ?_, (fun c => nomatch c)⟩)
        refine w_call (wa_cons (w_var rfl (wa_cons (w_var rfl (wa_nil ⟨(p, n), rfl, rfl, ⟨hb, n3⟩, ?_, fun e he => False.elim he⟩)))))
        rintro y ⟨qq, rfl, hq⟩
        refine ⟨_, rfl, ps ++ [qq], by rw [List.map_append]; rfl, by rw [List.length_append, hl]; rfl, fun t ht => ?_⟩
        rcases List.mem_append.mp ht with ht | ht
        · exact hps t ht
        · rw [List.mem_singleton.mp ht]
          exact hq
      · rintro out ⟨ps, rfl, hl, hps⟩
        rw [List.length_map, List.length_range] at hl
        exact ⟨ps, rfl, by omega, hps⟩
    rintro x ⟨told, rfl, lt, ht⟩
    refine ⟨rfl, ?_⟩
    refine ws_seq (ws_asg (W.mono (Φ := fun x => ∃ os : List Pm, x = .ls (os.map pmD) ∧ os.length ≤ 4 ∧ ∀ q ∈ os, DrP n q) ?_ ?_))
    · refine w_if (wt_test (w_eqI (w_take (wa_cons (w_var rfl (wa_cons (w_int (wa_nil ⟨p, 2, rfl, hb, by decide, by decide, fun r r0 r1 => w_int ⟨_, _, rfl, rfl, _, rfl, fun _ => ?_, fun _ => ?_⟩⟩))))))))
      · refine w_of_wf (wf_cat (w_of_wf (wf_cutFrom (w_var rfl (w_int ⟨told.map pmD, 1, rfl, rfl, ?_⟩)))))
        refine w_of_wf (wf_lst (wa_cons (w_call (wa_cons (w_var rfl (wa_cons (w_var rfl (wa_nil ⟨(p, n), rfl, rfl, ⟨hb, n3⟩, ?_, fun e he => False.elim he⟩))))))))
        rintro y ⟨qq, rfl, hq⟩
        refine wa_nil ⟨[pmD qq], rfl, lek rfl, _, _, rfl, rfl, ?_, told.drop 1 ++ [qq], ?_, ?_, fun t ht2 => ?_⟩
        · simp only [List.length_drop, List.length_map, List.length_cons, List.length_nil]
          omega
        · rw [List.map_append, List.map_drop]
          rfl
        · simp only [List.length_append, List.length_drop, List.length_cons, List.length_nil]
          omega
        · rcases List.mem_append.mp ht2 with ht2 | ht2
          · exact ht t (List.mem_of_mem_drop ht2)
          · rw [List.mem_singleton.mp ht2]
            exact hq
      · refine w_of_wf (wf_cat (w_var rfl (w_of_wf (wf_rep (w_of_wf (wf_lst ?_))))))
        repeat (first
        | refine wa_cons (w_int ?_)
        | refine wa_cons (w_str ?_)
        | refine wa_cons (w_tup ?_)
        | refine wa_nil ⟨_, rfl, lek rfl, ?_⟩)
        refine w_int1 (wa_cons (w_gt (w_var rfl (w_int ⟨(n : Nat), 0, rfl, rfl, wa_nil (.inr ⟨_, rfl, ?_⟩)⟩))))
        refine ⟨[pmD ([1], [1])], _, rfl, rfl, ?_, ?_, lek rfl, told.map pmD, _, rfl, rfl, ?_, told ++ (if decide ((0 : Int) < (n : Nat)) = true then [([1], [1])] else []), ?_, ?_, fun t ht2 => ?_⟩
        · split <;> decide
        · split <;> decide
        · by_cases c : (0 : Int) < (n : Nat)
          · rw [decide_eq_true c]
            show (told.map pmD).length + 1 ≤ 100000
            rw [List.length_map]
            omega
          · rw [decide_eq_false c]
            show (told.map pmD).length + 0 ≤ 100000
            rw [List.length_map]
            omega
        · by_cases c : (0 : Int) < (n : Nat)
          · rw [decide_eq_true c, List.map_append]
            rfl
          · rw [decide_eq_false c, List.map_append]
            rfl
        · rw [List.length_append]
          by_cases c : (0 : Int) < (n : Nat)
          · rw [decide_eq_true c]
            show told.length + 1 ≤ 4
            omega
          · rw [decide_eq_false c]
            show told.length + 0 ≤ 4
            omega
        · rcases List.mem_append.mp ht2 with ht2 | ht2
          · exact ht t ht2
          · by_cases c : (0 : Int) < (n : Nat)
            · rw [decide_eq_true c] at ht2
              rw [List.mem_singleton.mp ht2]
              refine ⟨by decide, by decide, fun x hx => ?_, by decide, by decide⟩
              have hx' : x ∈ ([1, 1] : List Int) := hx
              simp only [List.mem_cons, List.not_mem_nil, or_false, or_self] at hx'
              omega
            · rw [decide_eq_false c] at ht2
              cases ht2
    rintro x ⟨os, rfl, lo, ho⟩
    refine ⟨rfl, ?_⟩
    have hgs : ∀ q ∈ told ++ told.take 1, DrP n q := fun t h => by
      rcases List.mem_append.mp h with h | h
      · exact ht t h
      · exact ht t (List.mem_of_mem_take h)
    have lgs : (told ++ told.take 1).length ≤ 4 := by
      rw [List.length_append, List.length_take]
      omega
    refine ws_seq (ws_own (wf_map (wi_sq (w_of_wf (wf_cat (w_var rfl (w_of_wf (wf_cutUp (w_var rfl (w_int ⟨told.map pmD, 1, rfl, rfl, _, _, rfl, rfl, ?_, _, (told ++ told.take 1).map pmD, rfl, ?_, ?_⟩))))))))))
    · simp only [List.length_map, List.length_take]
      omega
    · show some _ = some _
      rw [List.map_append, List.map_take]
    refine ⟨few (n := 4) lgs, Pm, told ++ told.take 1, pmD, gvD, rfl, fun g hg2 => wg_name (by decide) ?_, fun D hD => ?_⟩
    · exact w_of_wf (wf_map (wi_sq (w_var rfl ⟨_, [.tuple (g.1.map PyData.int), .tuple (g.2.map PyData.int)], rfl, rfl, lek rfl, List Int, [g.1, g.2], fun s => .tuple (s.map PyData.int), fun s => .list (s.map PyData.int), rfl, fun s hs => wg_name (by decide) (w_of_wf (wf_list (wa_cons (w_var rfl (wa_nil ⟨_, s.map PyData.int, rfl, rfl, rfl⟩))))), rfl⟩)))
    have ng : needD (n : Nat) (.list ((told ++ told.take 1).map gvD)) = .inr (told ++ told.take 1) := need_drL hgs
    have eR : wk n (told ++ told.take 1) = wk n told := List.filter_congr fun r _ => all_congr (fun q => ⟨fun h => (List.mem_append.mp h).elim id List.mem_of_mem_take, fun h => List.mem_append_left _ h⟩) r
    refine ws_seq (ws_lend (i := 3) rfl rfl (w_callKs (wa_cons (w_var rfl (wa_cons (w_var rfl (wa_nil ⟨(.int (n : Nat), .list ((told ++ told.take 1).map gvD)), rfl, rfl, fun _ => few_gvs hgs (by omega), fun y hy => ?_, fun e he => (exn_prime n3 ng he).elim⟩)))))))
    have e5 := post_prime ng hy
    rw [eR] at e5
    subst e5
    refine ⟨_, rfl, firmAll_map pm_firm _, ?_⟩
    refine ws_seq (ws_clear (i := 3) rfl (only1 rfl) ?_)
    refine ws_seq (ws_par (wa_cons (w_callF (wa_cons (w_var rfl (wa_cons (w_var rfl (wa_nil ⟨(n, told, true), rfl, rfl, ⟨n3, dr_bd ht, by show told.length ≤ 200; omega⟩, ?_⟩))))))))
    refine wa_cons (w_callF (wa_cons (w_var rfl (wa_cons (w_var rfl (wa_nil ⟨(n, os, true), rfl, rfl, ⟨n3, dr_bd ho, by show os.length ≤ 200; omega⟩, wa_nil ⟨_, _, rfl, rfl, rfl, ?_⟩⟩))))))
    have wp : wk n (primeL n (wk n told)) = wk n told := wake_prime n3 (fun r => told.all (holdB r))
    have wq : wk n (primeL n (wk n os)) = wk n os := wake_prime n3 (fun r => os.all (holdB r))
    have rl : ∀ ps : List Pm, ∀ r ∈ wk n ps, r.length = n := fun ps r hr2 => (rowsL_row n r (List.mem_filter.mp hr2).1).1
    refine ws_seq (ws_if (WT.mono (Φ := fun b => b = false) ?_ fun b e => ⟨fun z => (by rw [e] at z; cases z), fun _ => ?_⟩))
    · refine wt_or (wt_test (w_neD (w_var rfl (w_callF (wa_cons (w_var rfl (wa_cons (w_var rfl (wa_nil ⟨(n, wk n told, true), rfl, rfl, ⟨n3, rl told, Nat.le_trans (wk_len n3 _) (by decide)⟩, _, _, rfl, rfl, pmsT_shaped _, pmsT_shaped _, _, rfl, fun c => ?_, fun _ => ?_⟩)))))))))
      · rw [eqv_self (pmsT_shaped _)] at c
        cases c
      · refine wt_test (w_neD (w_callF (wa_cons (w_var rfl (wa_cons (w_var rfl (wa_nil ⟨(n, primeL n (wk n told), false), rfl, rfl, ⟨n3, dr_bd fun q h => prime_drp n3 h, Nat.le_trans (prime_few n3 _) (by decide)⟩, w_var rfl ⟨_, _, rfl, rfl, (rows_shaped _).1, (rows_shaped _).1, _, rfl, ?_⟩⟩)))))))
        show (!PyData.eqv (.list ((wk n (primeL n (wk n told))).map rowD)) (.list ((wk n told).map rowD))) = false
        rw [wp, eqv_self (rows_shaped _).1]
        rfl
    refine ws_next (ws_seq (ws_if (WT.mono (Φ := fun b => b = false) ?_ fun b e => ⟨fun z => (by rw [e] at z; cases z), fun _ => ?_⟩)))
    · refine wt_test (w_neB (w_eqD (w_primeC (ps := os) n3 (fun Ψ z => w_var rfl z) (fun Ψ z => w_var rfl z) rfl rfl (need_dr ho) (few_pms ho (by omega)) (w_var rfl ⟨_, _, rfl, rfl, pmsT_shaped _, pmsT_shaped _, w_eqD (w_var rfl (w_var rfl ⟨_, _, rfl, rfl, (rows_shaped _).1, (rows_shaped _).1, _, _, rfl, rfl, _, rfl, ?_⟩))⟩))))
      have h1 : PyData.eqv (.tuple ((primeL n (wk n os)).map pmD)) (.tuple ((primeL n (wk n told)).map pmD)) = decide (primeL n (wk n os) = primeL n (wk n told)) := eqvAll_pms _ _
      have h2 : PyData.eqv (.list ((wk n os).map rowD)) (.list ((wk n told).map rowD)) = decide (wk n os = wk n told) := eqvAll_rows _ _
      rw [h1, h2]
      have h3 : decide (primeL n (wk n os) = primeL n (wk n told)) = decide (wk n os = wk n told) := decide_eq_decide.mpr (prime_inj n3 (fun r => os.all (holdB r)) (fun r => told.all (holdB r)))
      rw [h3, decide_eq_true rfl]
      rfl
    refine ws_next (ws_seq (ws_asg (W.mono (Φ := fun x => ∃ dr : List (List Int), x = .ls (dr.map rowD) ∧ (∀ r ∈ dr, r ∈ rowsL n) ∧ dr.length ≤ 8) ?_ ?_)))
    · refine w_of_wf (wf_lcI (wi_sq (w_callF (wa_cons (w_var rfl (wa_nil ⟨n, rfl, rfl, n3, _, (rowsL n).map rowD, rfl, rfl, fun i out => ∃ l : List (List Int), out = l.map rowD ∧ (∀ r ∈ l, r ∈ rowsL n) ∧ l.length ≤ i, ⟨[], rfl, (fun r h => nomatch h), Nat.le_refl _⟩, ?_, ?_⟩))))))
      · rintro i z out hz ⟨l, rfl, hl1, hl2⟩
        rw [List.getElem?_map] at hz
        obtain ⟨r, hr2, rfl⟩ := Option.map_eq_some_iff.mp hz
        have il := (List.getElem?_eq_some_iff.mp hr2).1
        have l8 : (rowsL n).length ≤ 8 := by rw [rowsL_len]; exact pow2_8 n3
        refine ⟨by rw [List.length_map]; omega, wg_name (by decide) (wt_test (w_eqI (w_take (wa_cons (w_var rfl (wa_cons (w_int (wa_nil ⟨p, 2, rfl, hb, by decide, by decide, fun k k0 k1 => w_int ⟨_, _, rfl, rfl, _, rfl, fun c => w_var rfl ⟨_, rfl, l ++ [r], by rw [List.map_append]; rfl, fun t h => ?_, ?_⟩, fun c => ⟨l, rfl, hl1, by omega⟩⟩⟩))))))))⟩
        · rcases List.mem_append.mp h with h | h
          · exact hl1 t h
          · rw [List.mem_singleton.mp h]
            exact List.mem_of_getElem? hr2
        · rw [List.length_append]
          show l.length + 1 ≤ i + 1
          omega
      · rintro out ⟨l, rfl, hl1, hl2⟩
        rw [List.length_map, rowsL_len] at hl2
        exact ⟨l, rfl, hl1, Nat.le_trans hl2 (pow2_8 n3)⟩
    rintro x ⟨dr, rfl, hd1, hd2⟩
    refine ⟨rfl, ?_⟩
    have hdl : ∀ r ∈ dr, r.length = n := fun r h => (rowsL_row n r (hd1 r h)).1
    have hdr : ∀ r ∈ dr, (r.length : Int) = (n : Nat) ∧ ∀ x ∈ r, x = 0 ∨ x = 1 := fun r h => ⟨by rw [hdl r h], (rowsL_row n r (hd1 r h)).2⟩
    have nr : goE (rowI (n : Nat)) 0 (dr.reverse.map fun r => .list (r.map PyData.int)) = .inr dr.reverse := by
      rw [goE_map (h := fun r => r) fun r hr2 => (rowI_row (hdr r (List.mem_reverse.mp hr2)).1 (hdr r (List.mem_reverse.mp hr2)).2).2, List.map_id']
    refine ws_seq (ws_if (WT.mono (Φ := fun b => b = false) ?_ fun b e => ⟨fun z => (by rw [e] at z; cases z), fun _ => ?_⟩))
    · refine wt_test (w_neD (w_callKs (wa_cons (w_of_wf (wf_map (wi_sq (w_of_wf (wf_rev (w_var rfl ⟨dr.map rowD, rfl, _, (dr.map rowD).reverse, rfl, rfl, ?_, List Int, dr.reverse, rowD, fun r => .list (r.map PyData.int), ?_, fun r hr2 => wg_name (by decide) (w_of_wf (wf_list (wa_cons (w_var rfl (wa_nil ⟨_, r.map PyData.int, rfl, rfl, rfl⟩))))), wa_cons (w_var rfl (wa_nil ⟨(n, .list (dr.reverse.map fun r => .list (r.map PyData.int))), rfl, rfl, ⟨n3, fun ds eds => ?_⟩, fun y hy => ?_, fun e he => ?_⟩))⟩)))))))))
      · rw [List.length_reverse, List.length_map]
        omega
      · rw [List.map_reverse]
      · cases eds
        refine ⟨by rw [List.length_map, List.length_reverse]; omega, fun d hdd es ees => ?_⟩
        obtain ⟨r, hr2, rfl⟩ := List.mem_map.mp hdd
        cases ees
        have := hdl r (List.mem_reverse.mp hr2)
        rw [List.length_map]
        omega
      · obtain ⟨ds, rs, e1, e2, rfl⟩ := hy
        cases e1
        replace e2 : goE (rowI (n : Nat)) 0 (dr.reverse.map fun r => .list (r.map PyData.int)) = .inr rs := e2
        rw [nr] at e2
        cases e2
        refine w_callF (wa_cons (w_var rfl (wa_cons (w_var rfl (wa_nil ⟨(n, dr, true), rfl, rfl, ⟨n3, hdl, by show dr.length ≤ 1000; omega⟩, _, _, rfl, rfl, pmsT_shaped _, pmsT_shaped _, _, rfl, ?_⟩)))))
        show (!PyData.eqv (.tuple ((primeL n dr.reverse).map pmD)) (.tuple ((primeL n dr).map pmD))) = false
        rw [primeL_congr (rs := dr.reverse) (qs := dr) (fun r => List.mem_reverse), eqv_self (pmsT_shaped _)]
        rfl
      · rcases he with ⟨e1, _⟩ | ⟨ds, k, e1, e2, _⟩
        · cases e1
        · cases e1
          replace e2 : goE (rowI (n : Nat)) 0 (dr.reverse.map fun r => .list (r.map PyData.int)) = .inl k := e2
          rw [nr] at e2
          cases e2
    have hA : ∀ q ∈ primeL n (wk n told), DrP n q := fun q h => prime_drp n3 h
    have hB : ∀ q ∈ primeL n (wk n os), DrP n q := fun q h => prime_drp n3 h
    obtain ⟨bk1, bk2, bk3⟩ := it_bk n3 hA hB (Nat.le_trans (prime_few n3 _) (by decide)) (Nat.le_trans (prime_few n3 _) (by decide))
    have dS1 : ∀ {ps : List Pm}, (∀ q ∈ ps, DrP n q) → ∀ q ∈ sortP ps, DrP n q := fun h q hq => h q (mem_sortP.mp hq)
    obtain ⟨ck1, ck2, ck3⟩ := it_bk n3 (dS1 ht) (dS1 ho) (by have := len_sortP told; omega) (by have := len_sortP os; omega)
    have e8 : (itR (sortP told) (sortP os)).map (primeR [(("it" : Str), n)]) = itR (primeL n (wk n told)) (primeL n (wk n os)) := by
      rw [it_prime, wk_sort, wk_sort]
    have e9 : (itR (primeL n (wk n told)) (primeL n (wk n os))).map (primeR [(("it" : Str), n)]) = itR (primeL n (wk n told)) (primeL n (wk n os)) := by
      rw [it_prime, wp, wq]
    have bok : (⟨[(("it" : Str), n)], true, [⟨"it", "left", .list (told.map pmD), told⟩, ⟨"it", "right", .list (os.map pmD), os⟩], true⟩ : BkIn).Ok := by
      refine ⟨it_ok n3, fun r hr2 => ?_, by show 2 ≤ 60; decide⟩
      rcases List.mem_cons.mp hr2 with rfl | hr2
      · refine ⟨.inl rfl, ⟨it_name.1, it_name.2.1⟩, n, told.map pmD, List.mem_singleton.mpr rfl, n3, rfl, need_dr ht, fun x hx => ?_, by rw [List.length_map]; omega⟩
        obtain ⟨q, hq, rfl⟩ := List.mem_map.mp hx
        exact few_dr (ht q hq)
      · rw [List.mem_singleton.mp hr2]
        refine ⟨.inr rfl, ⟨it_name.1, it_name.2.1⟩, n, os.map pmD, List.mem_singleton.mpr rfl, n3, rfl, need_dr ho, fun x hx => ?_, by rw [List.length_map]; omega⟩
        obtain ⟨q, hq, rfl⟩ := List.mem_map.mp hx
        exact few_dr (ho q hq)
    refine ws_next (ws_seq (ws_asg (W.mono (Φ := fun x => x = .fi (He.ga K "Book") (bookF [(("it" : Str), n)] (itR (primeL n (wk n told)) (primeL n (wk n os))))) ?_ ?_)))
    · refine w_call (wa_cons (w_make (wa_cons (w_of_wf (wf_lst (wa_cons (w_tup (wa_cons (w_str (wa_cons (w_var rfl (wa_nil ⟨[.str "it", .int (n : Nat)], rfl, lek rfl, wa_nil ⟨[mkD ("it", n)], rfl, lek rfl, ?_⟩⟩))))))))))))
      refine wa_cons (w_of_wf (wf_lst (wa_cons (w_tup (wa_cons (w_str (wa_cons (w_str (wa_cons (w_var rfl (wa_nil ⟨[.str "it", .str "left", .list (told.map pmD)], rfl, lek rfl, ?_⟩)))))))))) )
      refine wa_cons (w_tup (wa_cons (w_str (wa_cons (w_str (wa_cons (w_var rfl (wa_nil ⟨[.str "it", .str "right", .list (os.map pmD)], rfl, lek rfl, wa_nil ⟨[_, _], rfl, lek rfl, wa_nil ⟨⟨[(("it" : Str), n)], true, [⟨"it", "left", .list (told.map pmD), told⟩, ⟨"it", "right", .list (os.map pmD), os⟩], true⟩, rfl, rfl, bok, ?_, fun e he => False.elim he⟩⟩⟩))))))))
      have ef : fs_Book ⟨[(("it" : Str), n)], true, [⟨"it", "left", .list (told.map pmD), told⟩, ⟨"it", "right", .list (os.map pmD), os⟩], true⟩ = bookF [(("it" : Str), n)] (itR (sortP told) (sortP os)) := by
        show bookF (sortM [(("it" : Str), n)]) (sortR (itR (sortP told) (sortP os))) = _
        rw [sortM_one]
        exact congrArg _ (sortR_two _ _)
      rw [ef]
      refine wa_nil ⟨([(("it" : Str), n)], itR (sortP told) (sortP os)), rfl, rfl, ⟨it_ok n3, ck1, ck2⟩, fun y hy => ?_, fun e he => False.elim he⟩
      have hy' : y = .fi (He.ga K "Book") (bookF (sortM [(("it" : Str), n)]) (sortR ((itR (sortP told) (sortP os)).map (primeR [(("it" : Str), n)])))) := hy
      rw [hy', e8, sortM_one]
      exact congrArg (fun z => Dat.fi (He.ga K "Book") (bookF [(("it" : Str), n)] z)) (sortR_two _ _)
    rintro x rfl
    refine ⟨rfl, ?_⟩
    refine ws_seq (ws_if (WT.mono (Φ := fun b => b = false) ?_ fun b e => ⟨fun z => (by rw [e] at z; cases z), fun _ => ?_⟩))
    · refine wt_test (w_neD (w_fld T.k_Book T.a_Book_rules (w_var rfl ⟨_, .d (.tuple ((itR (primeL n (wk n told)) (primeL n (wk n os))).map rlD)), rfl, rfl, ?_⟩)))
      refine w_tup (wa_cons (w_tup (wa_cons (w_str (wa_cons (w_str (wa_cons (w_var rfl (wa_nil ⟨[.str "it", .str "left", .tuple ((primeL n (wk n told)).map pmD)], rfl, lek rfl, ?_⟩)))))))) )
      refine wa_cons (w_tup (wa_cons (w_str (wa_cons (w_str (wa_cons (w_callF (wa_cons (w_var rfl (wa_cons (w_var rfl (wa_nil ⟨(n, wk n os, true), rfl, rfl, ⟨n3, rl os, Nat.le_trans (wk_len n3 _) (by decide)⟩, ?_⟩))))))))))) )
      refine wa_nil ⟨[.str "it", .str "right", .tuple ((primeL n (wk n os)).map pmD)], rfl, lek rfl, wa_nil ⟨_, rfl, lek rfl, _, _, rfl, rfl, rls_shaped bk3.r, rls_shaped bk3.r, _, rfl, ?_⟩⟩
      show (!PyData.eqv (.tuple ((itR (primeL n (wk n told)) (primeL n (wk n os))).map rlD)) (.tuple ((itR (primeL n (wk n told)) (primeL n (wk n os))).map rlD))) = false
      rw [eqv_self (rls_shaped bk3.r)]
      rfl
    refine ws_next (ws_seq (ws_if (WT.mono (Φ := fun b => b = false) ?_ fun b e => ⟨fun z => (by rw [e] at z; cases z), fun _ => ?_⟩)))
    · refine wt_or (wt_test (w_neD (w_call (wa_cons (w_var rfl (wa_cons (w_int (wa_nil ⟨([(("it" : Str), n)], itR (primeL n (wk n told)) (primeL n (wk n os)), 0), rfl, rfl, ⟨by show 0 < 2; decide, bk1⟩, fun y hy => ?_, fun e he => False.elim he⟩))))))))
      obtain ⟨r, m, e1, e2, e3, rfl⟩ := hy
      cases e1
      have em : m = n := by
        have := List.mem_singleton.mp e2
        injection this
      subst em
      refine w_tuple (wa_cons (w_var rfl (wa_nil ⟨_, _, rfl, rfl, _, _, rfl, rfl, (rows_shaped _).2, (rows_shaped _).2, _, rfl, fun c => ?_, fun _ => ?_⟩)))
      · have c' : (!PyData.eqv (.tuple ((wk m (primeL m (wk m told))).map rowD)) (.tuple ((wk m told).map rowD))) = true := c
        rw [wp, eqv_self (rows_shaped _).2] at c'
        cases c'
      · refine wt_test (w_ownSame (w_callKs (wa_cons (w_var rfl (wa_nil ⟨([(("it" : Str), m)], itR (primeL m (wk m told)) (primeL m (wk m os))), rfl, rfl, ⟨it_ok n3, bk1, bk2⟩, fun y hy => ?_, fun e he => False.elim he⟩)))))
        have hy' : y = .fi (He.ga K "Book") (bookF (sortM [(("it" : Str), m)]) (sortR ((itR (primeL m (wk m told)) (primeL m (wk m os))).map (primeR [(("it" : Str), m)])))) := hy
        rw [hy', e9, sortM_one]
        refine w_var rfl ⟨_, _, congrArg (fun z => Dat.fi (He.ga K "Book") (bookF [(("it" : Str), m)] z)) (sortR_two _ _), rfl, bk3, _, rfl, rfl⟩
    have ltt : (told.map pmD).length = told.length := List.length_map ..
    have ltd : (dr.map rowD).length = dr.length := List.length_map ..
    refine ws_next (wq_new (C := XL P w K mg base A ou s H E) qXL hT1 (w_tup (wa_cons (w_str (wa_cons (w_str (wa_nil ⟨[.str "size", .str "places"], rfl, lek rfl, _, rfl, ?_⟩)))))) (show 9 ≤ _ from lek rfl))
    refine wq_app qXL hT1 (lek rfl) (w_tup (wa_cons (w_str (wa_cons (w_lenQ (wa_cons (w_var rfl (wa_nil ⟨_, told.map pmD, rfl, rfl, wa_nil ⟨_, rfl, lek rfl, .tuple [.str "premises", .int (told.length : Nat)], (by rw [ltt]; rfl), ?_⟩⟩))))))))
    refine wq_app qXL hT1 (lek rfl) (w_tup (wa_cons (w_str (wa_cons (w_neg (w_int ⟨1, rfl, wa_nil ⟨_, rfl, lek rfl, .tuple [.str "premises", .int (-1)], rfl, ?_⟩⟩))))))
    refine wq_app qXL hT1 (lek rfl) (w_tup (wa_cons (w_str (wa_cons (w_lenQ (wa_cons (w_var rfl (wa_nil ⟨_, dr.map rowD, rfl, rfl, wa_nil ⟨_, rfl, lek rfl, .tuple [.str "row", .int (dr.length : Nat)], (by rw [ltd]; rfl), ?_⟩⟩))))))))
    refine wq_app qXL hT1 (lek rfl) (w_tup (wa_cons (w_str (wa_cons (w_neg (w_int ⟨1, rfl, wa_nil ⟨_, rfl, lek rfl, .tuple [.str "row", .int (-1)], rfl, ?_⟩⟩))))))
    exact wq_end (es := dueL told.length dr.length) (by decide) (show 17 ≤ _ from lek rfl) (show 18 ≤ _ from lek rfl) (fun e he X1 H1 E hE => w_lm n3 hb rfl rfl rfl rfl ht (by omega) hdr hd2 e he hE) (by kernel_rfl) (by decide) (by decide)
  · rintro ρ' rfl
    refine ws_next (ws_ret (fun _ (z : False) => z.elim) ?_)
    refine w_orV (w_neD (w_var rfl (w_of_wf (wf_lst (wa_nil ⟨[], rfl, lek rfl, _, _, rfl, rfl, ints_shaped ns, by decide +kernel, _, rfl, fun _ => ⟨rfl, rfl⟩, fun _ => ?_⟩)))))
    refine w_eqD (w_of_wf (wf_map (wi_r1 (wa_cons (w_int (wa_nil ⟨3, rfl, by decide, by decide, lek rfl, Nat, [0, 1, 2], fun i => .int (i : Nat), fun i => .int ((lotsL (rowsL i)).length : Nat), rfl, fun i hi => wg_name (by decide) ?_, ?_⟩))))))
    · have i2 : i ≤ 2 := by
        simp only [List.mem_cons, List.not_mem_nil, or_false] at hi
        omega
      have l4 : (rowsL i).length ≤ 4 := by
        rw [rowsL_len]
        exact Nat.le_trans (Nat.pow_le_pow_right (by decide) i2) (by decide)
      have l16 : (lotsL (rowsL i)).length ≤ 16 := by
        unfold lotsL
        rw [lots_len]
        exact Nat.le_trans (Nat.mul_le_mul_right _ (Nat.pow_le_pow_right (by decide) l4)) (by decide)
      refine w_lenSetN (w_of_wf (wf_map (wi_sq (w_callF (wa_cons (w_callF (wa_cons (w_var rfl (wa_nil ⟨i, rfl, rfl, by show i ≤ 3; omega, wa_nil ⟨rowsL i, rfl, rfl, l4, _, (lotsL (rowsL i)).map lotD, rfl, rfl, few (n := 16) l16, List (List Int), lotsL (rowsL i), lotD, fun lot => .tuple ((primeL i lot).map pmD), rfl, fun lot hl => wg_name (by decide) ?_, List Pm, lotK, (lotsL (rowsL i)).map (primeL i), ?_, fun b hb2 => ⟨⟨_, rfl⟩, lotK_depth b⟩, ?_, ?_, ?_⟩⟩)))))))) )
      · refine w_callF (wa_cons (w_var rfl (wa_cons (w_var rfl (wa_nil ⟨(i, lot, true), rfl, rfl, ⟨by show i ≤ 3; omega, lots_rows i2 lot hl, ?_⟩, rfl⟩)))))
        have := lots_few (rowsL i) [[]] 0 (fun m hm => by rw [List.mem_singleton.mp hm]; exact Nat.le_refl _) lot hl
        show lot.length ≤ 1000
        omega
      · show some _ = some _
        rw [List.map_map]
        refine congrArg some (List.map_congr_left fun lot _ => ?_)
        exact (lotK_data _).symm
      · exact List.pairwise_map.mpr ((lots_prime i2).imp fun ne e => ne (lotK_inj e))
      · rw [List.length_map]
        omega
      · rw [List.length_map]
        rfl
    · refine w_of_wf (wf_lst ?_)
      repeat (first
        | refine wa_cons (w_int ?_)
        | refine wa_cons (w_str ?_)
        | refine wa_cons (w_tup ?_)
        | refine wa_nil ⟨_, rfl, lek rfl, ?_⟩)
      refine ⟨_, _, rfl, rfl, by decide +kernel, by decide +kernel, rfl, ?_⟩
      obtain ⟨z0, z1, z2⟩ := lots_size
      show Dat.d (.bool (PyData.eqv (.list [.int ((lotsL (rowsL 0)).length : Nat), .int ((lotsL (rowsL 1)).length : Nat), .int ((lotsL (rowsL 2)).length : Nat)]) (.list [.int 2, .int 4, .int 16]))) = Dat.d (.bool true)
      rw [z0, z1, z2]
      rfl
end
end K03

set_option Elab.async false
set_option linter.all false
set_option maxRecDepth 100000
set_option maxHeartbeats 8000000
namespace K03
open PySem PySem.Spec PyProof.Rows L2 Say LamX
theorem law_called {P : Program} {w : World} {K : PySem.W.Frag} {mg mb : Str → Option Value} {a : Addr} {vs : List Value} {ns : List Int} {s : Shared} (T : Tx K mg) (B : Before K mg mb (He.cT K pLaw).1 (He.cT K pLaw).2 a vs s) (hi : IntsAre vs ns) (hl : ns.length ≤ sizeLine) :
    codeAny (model P w) callerA (.call (.ref (He.ga K "law")) ⟨[.ref a], []⟩) (CR CX0 [] P w (told0 K (He.cT K pLaw).2 a vs ns) s (fun v _ => v = .bl true) fun _ _ _ => False) s := by
  obtain ⟨fd, F⟩ := T.F_law
  have b := FunD.bindsA (ps := ["script"]) F fun _ _ _ _ _ _ us hl => match us, hl with | [_], _ => rfl
  have hb := b s [.ref a] rfl
  obtain ⟨oc, od, dV, kV, doc, pm, an, cdv, ct, osl, rfl, lk, hcd, _, _⟩ := F.ex
  have hc2 := hcd
  obtain ⟨c, rfl⟩ := He.codeIn_ref hcd
  have e : He.codeOf K pLaw = c := He.codeOf_eq (p := pLaw) lk (c := c) rfl
  subst e
  exact run_ofS (k := 8) (vs := [V.ref a]) (us := [Value.ref a]) lk hc2 sc_law ⟨rfl, by decide, by decide⟩ (told0_env B hi hl) hb (.cons (show RelV (.ref a) (.ref a) from rfl) .nil) rfl fun hr => law_body (P := P) (w := w) (ou := []) (Q := fun v _ => v = .bl true) (E := fun _ _ _ => False) T (told0_tab B) hr rfl (told0_seq B hi hl) (TabS.nil told0_T) fun _ => rfl
end K03

set_option Elab.async false
set_option linter.all false
set_option maxRecDepth 100000
set_option maxHeartbeats 8000000
open PySem PySem.W PySem.Calls PyProof.Rows
theorem PySem.Challenge.cw_saymakers_k03_whole_prime_premises_holds : PySem.Challenge.rw_saymakers_k03_whole_prime_premises.Holds := by
  w_on; o_law
  refine HandSHeadRun.head_any (r := K03.R) (q := view K03.R.prog [66]) (H := K03.hk) (ob := K03.ob) (M := 8000) (loose := K03.looseNames) (d := HandSHeadRun.topDef K03.R.prog 66) (kwd := []) K03.ob_eq
    (by kernel_rfl) (fun s => by kernel_rfl) K03.run (by kernel_rfl) (by kernel_rfl) (by kernel_rfl) (by rfl) (by first | assumption | decide +kernel) (by decide +kernel) ⟨rfl, rfl, rfl, rfl, rfl, by decide +kernel⟩ ?hw ?hc
  case hw => w_witness2
  case hc =>
    refine Att.attach_callB (l := PySem.Challenge.rw_saymakers_k03_whole_prime_premises) (hn := rfl) (by kernel_rfl) fun w s₀ s₁ mg mb fa o pm cd doc a vs ns G Y ho hd hcd hmg hobj hints hlen hbits hg => ?_
    obtain ⟨K, KX, c⟩ := Y
    have T := K03.tx_of KX G.T.g c
    have hmg2 : mg ("law" : PySem.Str) = some (.ref fa) := by
      have e : (HandSHeadRun.topDef K03.R.prog 66).name = ("law" : PySem.Str) := by kernel_rfl
      rw [← e]
      exact hmg
    have e := hmg2.symm.trans T.g_law
    cases e
    have hp : K03.pLaw ∈ K03.tfs := List.mem_singleton.mpr rfl
    have hl : ns.length ≤ sizeLine := Nat.le_trans hlen (by decide)
    have B : Say.Before K mg mb (He.cT K K03.pLaw).1 (He.cT K K03.pLaw).2 a vs s₁ := ⟨KX, G.T.g, G.T.b, G.T.builtins, G.T.nolimit, hg, c.empty _ hp, c.out _ hp, codeHd_of_K KX (c.hd _ hp), G.T.bmain, hobj⟩
    exact Say.call_here B hints hl (K03.law_called T B hints hl)
