import PyProof.Rows.All
import Wide.All
import OpenK.AllK
import Wide.FinOn
import PyProof.EqAt
import PyProof.EqKinds
import PyProof.TupleCall
import Open.SpecLaws
import KE.OsGo
import KE.KMinKey
import HandS.ForSpec
import HandS.ExcInit
import HandS.ExcSuper
import HandS.ClsMeth
import HandS.CallSlots
import HandS.SortKw
import HandS.TupSets
import HandS.NoneIn
import HandS.Flow
import HandS.Comp
import HandS.Iter
import HandS.Zip
import HandS.Remove
import HandS.ListItems
import HandS.Codes
import HandS.WordsDict
import HandS.Walk
import HandS.TryMany
import HandS.ExcField
import PySem.Challenge.RW_undobranches_s01_answers
set_option Elab.async false
set_option linter.all false
set_option maxRecDepth 100000
set_option maxHeartbeats 8000000
/-! ### own error classes over Exception whose __init__ calls its base's -/
namespace UB
open PySem PySem.W PySem.Calls PyProof.Rows PySem.HandSPX Builtin Builtin.ObjectAttr
abbrev tailE : List Value := [.type "Exception", .type "BaseException", .type "object"]
/-- what stands behind a class of ours in its order: Exception's own, or one more class ahead -/
def Behind (l : List Value) : Prop := l = tailE ∨ ∃ r, l = Value.ref r :: tailE
theorem Behind.has {l : List Value} (h : Behind l) (X : String) : l.contains (.type X) = tailE.contains (.type X) := by
  rcases h with h | ⟨r, h⟩
  · rw [h]
  · rw [h, List.contains_cons]
    rfl
theorem Behind.pass {l : List Value} (h : Behind l) (C : Addr) (self : Value) : refuseLoop self "__setattr__" (.ref C :: l) = pure () := by
  rcases h with h | ⟨r, h⟩
  · rw [h, refuseLoop_ref]
    exact F.store_Exception.passes _
  · rw [h, refuseLoop_ref, refuseLoop_ref]
    exact F.store_Exception.passes _
section
variable {prog : Program} {w : World} {A : Around} {R : Result → Shared → Prop} {hp : Heap} {g : Array GenState} {d : Drawn} {t : Nat} {os : OsState}
/-- the first field that is stored in an exception of ours: its dict arises -/
theorem store_first {K : W.Frag} {name : Str} {tk : Tok} {v : Value} {x C : Addr} {fv : Array Value} {cd : ClassData} {bm : List Value}
    (KI : K.In hp) (hx : hp.get? x = some { cls := .ref C, data := .fields fv }) (hcd : W.clsIn K C = some cd) (hm : cd.mro = .ref C :: bm) (hb : Behind bm) (hh : cd.hasDict = true) (ha : W.findIn K (.ref C) name = some none)
    (hq : ∀ h' tk' dx, (∀ b o, b ≠ x → hp.get? b = some o → h'.get? b = some o) → hp.objs.size ≤ dx → dx ≠ x → h'.get? x = some { cls := .ref C, dict := some dx, data := .fields fv } →
      h'.Ns1 dx (fun y => if y = name then some v else none) → R (.ok (.ret .none)) ⟨h', g, d, tk', os⟩) :
    codeAny (model prog w) A (.call (.builtin "object.__setattr__") ⟨[.ref x, .str name tk, v], []⟩) R ⟨hp, g, d, t, os⟩ := by
  have J : W.InstAt hp x { cls := .ref C, data := .fields fv } C none := ⟨hx, rfl, rfl, trivial⟩
  have SO := F.store_object
  have apart : x ≠ hp.objs.size := Nat.ne_of_lt (Heap.lt_size hx)
  have inObj : (Value.ref C :: bm).contains (.type "object") = true := by
    rw [List.contains_cons, hb.has "object"]
    rfl
  have isO : W.Looks (model prog w) hp (isInstance (.ref x) (.type "object")) true := J.type.andThen (W.looks_mroIn KI (by
    unfold W.mroIn
    rw [hcd, Option.bind_some, hm, if_neg (show ¬ (List.isEmpty (Value.ref C :: bm) = true) from Bool.false_ne_true), inObj]))
  refine codeAny_call_builtin SO.slot.plain SO.entry (@W.check_slot (model prog w) _ _ ⟨hp, g, d, t, os⟩ "object.__setattr__" "object" "__setattr__" (.ref x) [.str name tk, v] [] _ SO.kind SO.split isO (SO.args (.ref x) (.str name tk) v) ?_)
  have order : W.Looks (model prog w) hp (mroOf (.ref C)) cd.mro := (W.looks_clsIn KI hcd).andThen .now
  have noTaker : W.Looks (model prog w) hp (storeTaker? none) none := .now
  have data : W.Looks (model prog w) hp (classData C) cd := W.looks_clsIn KI hcd
  have free : refuseLoop (.ref x) "__setattr__" cd.mro = pure () := by
    rw [hm]
    exact hb.pass C _
  rw [W.osa_eq, refuse_eq]
  refine wpAny_bind (wpAny_bind (J.type.at (wpAny_bind (order.at ?_))))
  rw [free]
  refine wpAny_pure (wpAny_bind (J.type.at (wpAny_bind ((W.looks_findIn KI ha).at (wpAny_bind (noTaker.at ?_))))))
  show wpAny _ _ (storeInOwnDict (.ref x) (.ref C) (.str name tk) name v false) _ _ _
  obtain ⟨cn, cb, cm, cs, cq, hasd, csl, csb, cab, ccol, cdel⟩ := cd
  dsimp only at hh
  subst hh
  unfold storeInOwnDict ownDictForStores
  repeat (first | with_reducible refine HandSPX.store_in_new ?_ ?_ | with_reducible refine wpAny_loadPart_at hx ?_ | with_reducible refine data.at ?_ | wp_step)
  · exact ⟨_, #[], _, (Heap.get?_update_ne _ _ _ _ apart.symm).trans (Heap.get?_push_at rfl rfl), rfl, fun e he => absurd he (by simp), fun _ => rfl⟩
  · intro h' tk' hn' hs
    have pushed : (hp.push { cls := .type "dict", data := .dict #[] }).get? x = some { cls := .ref C, data := .fields fv } := Heap.get?_push_of_some _ hx
    refine hq h' tk' hp.objs.size (fun b o hb ho => ?_) (Nat.le_refl _) apart.symm ?_ hn'
    · exact (hs.2 b (Nat.ne_of_lt (Heap.lt_size ho))).trans ((Heap.get?_update_ne _ _ _ _ hb).trans (Heap.get?_push_of_some _ ho))
    · exact (hs.2 x apart).trans (Heap.get?_update_self _ pushed rfl)
end
end UB

namespace L2
open PySem PySem.Spec PyProof.Rows
/-- what the written part says of an error class of ours, at C -/
structure ErrC (K : PySem.W.Frag) (C : Addr) : Prop where
  cls : ∃ nm q N bs bm sn sub ab col dd k0 k1 k2 k3 k5, K.lookup C = some (excClassObj nm q C N bs bm true sn sub ab col dd k0 k1 k2 k3 k5 "Exception.__new__") ∧ UB.Behind bm
  sa : PySem.W.findIn K (.ref C) "__setattr__" = some (some (.builtin "object.__setattr__"))
  exC : PySem.W.subIn K (.ref C) (.type "BaseException") = some true
  tyC : PySem.W.typeIn K (.ref C) = some (.type "type")
  kC : PySem.W.keepIn K (.ref C) = true
  noC : PySem.W.findIn K (.ref C) "code" = some none
section
variable {X : Cx} {pins : List (Addr × Obj)} {σ : St} {H : Hp} {s : Shared} {a C dx : Addr} {f : Str} {y : V} {u : Value} {fs : List (Str × V)} {Q : Unit → Shared → Prop} {E : Value → Shared → Prop} {A : Around}
theorem err_set (T : ErrC X.K C) (I : Inv X pins σ H s) (e : H a = some (exo a C none)) (hno : PySem.W.findIn X.K (.ref C) f = some none) (ry : RelV y u)
    (h : ∀ dx s', H dx = none → dx ≠ a → Inv X pins σ (upd (upd H dx (exd dx [(f, y)])) a (exo a C (some dx))) s' → Q () s') : wpAny (model X.prog X.w) A (setAttr (.ref a) f u) Q E s := by
  obtain ⟨nm, q, N, bs, bm, sn, sub, ab, col, dd, k0, k1, k2, k3, k5, hC, hbm⟩ := T.cls
  have hcl : PySem.W.clsIn X.K C = some { name := nm, bases := bs, mro := .ref C :: bm, ns := N, qualname := q, hasDict := true, slotNames := sn, subclasses := sub, abstract := ab, collection := col, hasDel := false } := by unfold PySem.W.clsIn; rw [hC] <;> rfl
  obtain ⟨t1, ho⟩ := exo_at I.hok e
  obtain ⟨hp, g, d, t, os⟩ := s
  refine PySem.W.set_plain I.kIn (ox := { cls := .ref C, dict := none, data := .fields #[.ref t1, .none, .none, .none, .bool false, .none] }) (od := none) ⟨ho, rfl, rfl, trivial⟩ T.sa ?_
  refine UB.store_first I.kIn ho hcl rfl hbm rfl hno (fun h' tk' dx k dn dne hx hn => ?_)
  have fresh : H dx = none := I.hok.fresh dn
  have apart : ∀ {b : Addr} {o : Obj}, hp.get? b = some o → b ≠ dx := fun {b o} q => Nat.ne_of_lt (Nat.lt_of_lt_of_le (Heap.lt_size q) dn)
  have other : ∀ {b : Addr}, H b = none → b ≠ a := fun {b} n z => by
    rw [z, e] at n
    cases n
  have left : Un X.fs [] H (upd (upd H dx (exd dx [(f, y)])) a (exo a C (some dx))) hp h' := {
    keep := fun b o q n _ _ => k b o (other n) q
    slot := fun b o q n _ _ => ⟨o.slots, k b o (other n) q⟩
    free := fun b o q n _ => by rw [upd_ne (other n), upd_ne (apart q)]; exact n
    there := fun b o q _ => by
      by_cases hb : b = a
      · exact ⟨_, by rw [hb]; exact hx⟩
      · exact ⟨o, k b o hb q⟩
    tups := fun b xs q => by rw [upd_ne (at_ne e q exo_tup), upd_ne (ne_of_none q fresh)]; exact q
    frzs := fun b o v q => by rw [upd_ne (at_ne e q exo_frz), upd_ne (ne_of_none q fresh)]; exact q
    tbls := fun b ps q => ⟨#[], by rw [upd_ne (at_ne e q exo_tbl), upd_ne (ne_of_none q fresh), q]; simp⟩ }
  refine h dx _ fresh dne (I.un (t' := tk') left fun b o q => ?_)
  by_cases hb : b = a
  · subst hb
    rw [upd_same] at q
    cases q
    exact exo_ok hx
  · rw [upd_ne hb] at q
    by_cases hd : b = dx
    · subst hd
      rw [upd_same] at q
      cases q
      exact exd_ok hn (relO_put (fs := []) ry fun g => True.intro)
    · rw [upd_ne hd] at q
      exact (I.hok b o q).stay (fun c v hc z => k c v (by
          rcases hc with hc | hc
          · rw [hc]
            exact hb
          · exact at_ne e hc exo_own) z)
        (fun c hc => by rw [upd_ne (at_ne e hc exo_own), upd_ne (ne_of_none hc fresh)]; exact hc) (fun c xs hc => by rw [upd_ne (at_ne e hc exo_tup), upd_ne (ne_of_none hc fresh)]; exact hc)
/-- Exception.__init__(self, ..) of a new one -/
theorem err_init {us : List Value} {Q : Value → Shared → Prop} (T : ErrC X.K C) (I : Inv X pins σ H s) (e : H a = some (exo a C none)) (hl : us.length ≤ sizeLine) (h : ∀ s', Inv X pins σ H s' → Q .none s') :
    wpAny (model X.prog X.w) A (call (.builtin "Exception.__init__") (.ref a :: us)) Q E s := by
  obtain ⟨nm, q, N, bs, bm, sn, sub, ab, col, dd, k0, k1, k2, k3, k5, hC, hbm⟩ := T.cls
  obtain ⟨t1, ho⟩ := exo_at I.hok e
  obtain ⟨hp, g, d, t, os⟩ := s
  refine wpAny_call (PySem.HandSPX.init_base F.excBase_Exception hbm.has (I.kIn _ _ hC) ho hl fun h' t2 k hx => ?_)
  have J := I.write (t' := t) (x := a) (e := a) (o := exo a C none) (by rw [e]; exact True.intro) (.inl rfl) k ⟨_, hx⟩ (exo_ok hx)
  have same : upd H a (exo a C none) = H := by
    funext b
    by_cases hb : b = a
    · rw [hb, upd_same, e]
    · rw [upd_ne hb]
  rw [same] at J
  exact h _ J
end
/-- Exception.__init__(self, ..) -/
def tExcInit (K : PySem.W.Frag) (ta : TA) : TE := fun σ H Q => ta σ H fun vs H1 => ∃ (a C : Addr) (ws : List V), vs = .ref a :: ws ∧ ws.length ≤ 1000 ∧ ErrC K C ∧ H1 a = some (exo a C none) ∧ Q .non H1
/-- self.f = e in such a new exception -/
def tErrSet (K : PySem.W.Frag) (f : Str) (to te : TE) : TS := fun D σ H => te σ H fun y H1 => to σ H1 fun x H2 => ∃ a C : Addr, x = .ref a ∧ ErrC K C ∧ PySem.W.findIn K (.ref C) f = some none ∧
  H2 a = some (exo a C none) ∧ ∀ dx, H2 dx = none → dx ≠ a → D.nx σ (upd (upd H2 dx (exd dx [(f, y)])) a (exo a C (some dx)))
theorem typ_Exc : typeOf (.type "Exception") = pure (.type "type") := by kernel_rfl
section
variable {X : Cx} {o e : Expr} {es : List Expr} {to te : TE} {ta : TA} {f m : Str} {p p' p1 p2 pos : Pos}
theorem pe_excInit {pl : Sem Bool} (hg : Gl X "Exception") (hm : X.mg "Exception" = none) (vV : PySem.W.findCls X.K (.type "Exception") (.type "type") "__init__" = some (.val (.builtin "Exception.__init__"))) (ha : PA X (e :: es) ta)
    (hc : eval (.Call (.Attribute (.Name "Exception" p1) "__init__" p2) (e :: es) [] pos) X.env = (do
      let ov ← eval (.Name "Exception" p1) X.env
      standAt p2.atName
      let (f, first) ← holding [ov] (getMethod ov "__init__" pl)
      callWith pos f first (backTo pos (starEach (e :: es) X.env)) (backToKw pos (keywordEach [] X.env))) := by rfl)
    (he : starEach (e :: es) X.env = (false, eval e X.env) :: starEach es X.env := by rfl) (hpl : (backTo pos (starEach es X.env)).any (·.1) = false := by rfl) :
    PE X (.Call (.Attribute (.Name "Exception" p1) "__init__" p2) (e :: es) [] pos) (tExcInit X.K ta) := by
  refine ⟨fun pins s σ H Q I h => ?_⟩
  refine PySem.W.methodCall_KW (ld_blt I hg hm PyProof.Rows.Boot.«Exception» ?_ (by decide) (by decide)) hc
  obtain ⟨m, fr⟩ := I.fr
  refine PySem.W.method_type fr I.ok.mod.kin typ_Exc (by decide +kernel) vV (by decide +kernel) ?_
  show wpAny _ _ (callWith pos (Value.builtin "Exception.__init__") [] (backTo pos (starEach (e :: es) X.env)) []) _ _ _
  refine PyProof.Rows.callWith_method1 (thn (ha.run pos pins _ σ H _ (I.tok _) h) fun us s1 ⟨vs, H1, I1, r1, a, C, ws, ev, hl, T, ea, q⟩ => ?_) he hpl
  subst ev
  cases r1 with
  | @cons _ u0 _ ur ra rw' =>
    obtain rfl : u0 = Value.ref a := ra
    have hlen : ur.length ≤ sizeLine := by
      rw [← Paired.length rw', sizeLine_eq]
      omega
    exact err_init T I1 ea hlen fun s' J => ⟨.non, H1, J, rfl, q⟩
theorem ps_errSet (ho : PE X o to) (he : PE X e te) (hs : swapsWith e (some (.Attribute o f p')) pos.line X.env = pure false := by rfl) : PS X (.Assign [.Attribute o f p'] e pos) (tErrSet X.K f to te) := by
  refine ⟨fun pins s σ H D I h => ?_⟩
  refine plainObj_wpAny_Assign_Attribute (thn (he.run pins s σ H _ I h) fun v s1 ⟨y, H1, I1, r1, q1⟩ => thn (ho.run pins s1 σ H1 _ I1 q1) fun u s2 ⟨x, H2, I2, r2, a, C, ex, T, hno, ea, q⟩ => ?_) hs
  subst ex
  obtain rfl : u = Value.ref a := r2
  exact err_set T I2 ea hno r1 fun dx s' n ne J => ⟨σ, _, J, q dx n ne⟩
/-- B.m(e, ..): a def of a class of ours, called off the class -/
structure OffC (K : PySem.W.Frag) (B : Addr) (m : Str) (g : Addr) : Prop where
  rd : PySem.W.readsIn K B (.type "type") = true
  ga : PySem.W.specialIn K (.ref B) "__getattribute__" = some (some (.builtin "type.__getattribute__"))
  at_ : PySem.W.findCls K (.ref B) (.type "type") m = some (.val (.ref g))
  kp : PySem.W.keepIn K (.ref g) = true
theorem pe_off {CX : CXT} {k : Nat} {B g : Addr} {fd : FuncData} {ps : List Str} {sp : Sp} {E : XK} {x : Str} {pl : Sem Bool} (hg : Gl X x) (hm : X.mg x = some (.ref B)) (O : OffC X.K B m g)
    (F : FnOk X.prog X.w X.K X.mg X.base CX k g fd ps sp) (hr : Room k X.A) (hb : Binds X.K fd ps []) (hx : Passes CX X E) (ha : PA X (e :: es) ta)
    (hc : eval (.Call (.Attribute (.Name x p1) m p2) (e :: es) [] pos) X.env = (do
      let ov ← eval (.Name x p1) X.env
      standAt p2.atName
      let (f, first) ← holding [ov] (getMethod ov m pl)
      callWith pos f first (backTo pos (starEach (e :: es) X.env)) (backToKw pos (keywordEach [] X.env))) := by rfl)
    (hdb : (x == ("__debug__" : Str)) = false := by decide) (he : starEach (e :: es) X.env = (false, eval e X.env) :: starEach es X.env := by rfl) (hpl : (backTo pos (starEach es X.env)).any (·.1) = false := by rfl) :
    PE X (.Call (.Attribute (.Name x p1) m p2) (e :: es) [] pos) (fun σ H Q => ta σ H fun vs H1 => sp (vs ++ []) H1 Q E) := by
  refine ⟨fun pins s σ H Q I h => ?_⟩
  refine PySem.W.methodCall_KW (ld_glob I hg hm ?_ hdb) hc
  refine PySem.W.method_cls I.kIn O.ga (PySem.W.cls_value I.kIn O.rd O.at_ rfl ?_)
  refine PySem.W.callWith_K (h₀ := X.base) (first := []) I.ok.mod.kin O.kp (thn (ha.run pos pins _ σ H _ (I.tok _) h) fun us s2 ⟨vs, H2, I2, r, q2⟩ => ⟨I2.kIn, ?_⟩) he hpl
  exact run_fn F hr hb .nil hx I2 r q2
/-- C(), C an error class of ours whose __init__ keeps sp -/
def tMkE (C : Addr) (sp : Sp) : L2.St → Hp → XK → Prop := fun _ H Q => ∀ a, H a = none → sp [.ref a] (upd H a (exo a C none))
  (fun v H2 => v = .non ∧ ∃ (d : Addr) (fs : List (Str × V)), H2 a = some (exo a C (some d)) ∧ H2 d = some (exd d fs) ∧ H d = none ∧ Q (.ref C) (some d) (upd (del H2 a) d (.xd fs))) (fun _ _ _ => False)
theorem pmk_err {x : Str} {C fI : Addr} {k : Nat} {fd : FuncData} {ps : List Str} {sp : Sp} (T : ErrC X.K C) (iC : PySem.W.findIn X.K (.ref C) "__init__" = some (some (.ref fI))) (tI : PySem.W.typeIn X.K (.ref fI) = some (.type "function"))
    (F1 : FnOk X.prog X.w X.K X.mg X.base CX0 k fI fd ps sp) (hr : Room (k + 1) X.A) (hb : Binds X.K fd ps []) (hg : Gl X x) (hm : X.mg x = some (.ref C)) (hdb : (x == ("__debug__" : Str)) = false := by decide) :
    PMk X (.Call (.Name x p) [] [] pos) (tMkE C sp) := by
  intro pins s σ H Q I h
  obtain ⟨nm, q, N, bs, bm, sn, sub, ab, col, dd, k0, k1, k2, k3, k5, hC, hbm⟩ := T.cls
  refine wpAny_Call_Name_kw (ld_glob I hg hm ?_ hdb)
  refine PySem.W.callWith_K0 I.kIn T.kC ?_
  show wpAny _ _ (call (.ref C) []) _ _ _
  obtain ⟨hp, g, dr, tk, os⟩ := s
  have later : hp.objs.size ≤ hp.objs.size + 1 := Nat.le_succ _
  have fresh : H (hp.objs.size + 1) = none := I.hok.fresh later
  have hq := h (hp.objs.size + 1) fresh
  have kept : ∀ b o, hp.get? b = some o → ((hp.push (PySem.W.kdv_tup [])).push (PySem.HandSPX.excO C hp.objs.size)).get? b = some o := fun b o e => Heap.get?_push_of_some _ (Heap.get?_push_of_some _ e)
  have there : ((hp.push (PySem.W.kdv_tup [])).push (PySem.HandSPX.excO C hp.objs.size)).get? (hp.objs.size + 1) = some (PySem.HandSPX.excO C hp.objs.size) := by heap_get
  have I2 : Inv X pins σ (upd H (hp.objs.size + 1) (exo (hp.objs.size + 1) C none)) ⟨(hp.push (PySem.W.kdv_tup [])).push (PySem.HandSPX.excO C hp.objs.size), g, dr, tk, os⟩ :=
    I.laid (t' := tk) (a := hp.objs.size + 1) (o := exo (hp.objs.size + 1) C none) (h' := (hp.push (PySem.W.kdv_tup [])).push (PySem.HandSPX.excO C hp.objs.size)) kept later (exo_ok there)
  have r2 : Vals [V.ref (hp.objs.size + 1)] [Value.ref (hp.objs.size + 1)] := .cons rfl .nil
  have hl : ([Value.ref (hp.objs.size + 1)] ++ []).length = ps.length := (F1.len _ _ _ _ hq)
  refine wpAny_call (PySem.HandSPX.call_own F.excBase_Exception hbm.has (I.kIn _ _ hC) (PySem.W.looks_findIn I.kIn iC) (fun self => PySem.W.bind_fn I.kIn self tI) (rest := []) (Nat.zero_le _)
    (codeAny_mono (F1.run _ X.stack _ _ ⟨[Value.ref (hp.objs.size + 1)], []⟩ [Value.ref (hp.objs.size + 1)] _ _ (fun _ _ _ => False) (hr.make C [] []) (I2.env0.make C [] []) (hb _ [Value.ref (hp.objs.size + 1)] I2.kIn hl) r2 hq) fun r s' hq' => ?_))
  cases r with
  | error er => exact hq'.elim
  | ok fl =>
    cases fl with
    | ret u =>
      obtain ⟨v, H2, os2, bare2, un2, hok2, rv, ev, d, fs, ea, ed, hd1, q2⟩ := hq'
      subst ev
      obtain ⟨h2, g2, d2, t2, os'⟩ := s'
      exact ⟨rv, mk_end (raises_own T.exC T.tyC) I later kept un2 hok2 os2 bare2 ea ed hd1 q2⟩
    | next => exact False.elim hq'
    | brk => exact False.elim hq'
    | cont => exact False.elim hq'
end
end L2
/-! ### max(xs, default=d), min(xs, default=d) of a list of whole numbers -/
namespace UB
open PySem PyProof.Rows

theorem args_max_d (a v : Value) : argsOk "max" ⟨[a], [(Str.ofString "default", v)]⟩ := by unfold argsOk; kernel_rfl
theorem name_max : (toString "max" ++ toString ".loop" : String) = "max.loop" := by decide
section
variable {prog : Program} {w : World} {A : Around} {R : Result → Shared → Prop} {I : Addr} {fp wr : List Addr} {n : Nat} {P : Nat → Value → Prop} {St : Nat → Heap → Prop} {kw : List (Str × Value)}
theorem on_max (W : Walks prog w A.in1 I fp wr n P St) (bt : Nat → Nat → Bool) (cmp : CmpOf prog w A.in1 .Gt P bt) (S : Addr) (apart : S ∉ fp) :
    ∀ (k j : Nat) (s : Shared) (best : Value) (c : Nat), n - (j + 1) = k → j + 1 ≤ n → St (j + 1) s.heap → P (argBest bt j) best →
    s.heap.get? S = some { cls := .type "list", dict := none, data := .seq #[best, best] c, slots := #[] } →
    (∀ v h' tk, P (argBest bt (n - 1)) v → (∀ b o, b ∉ wr → b ≠ S → s.heap.get? b = some o → h'.get? b = some o) → R (.ok (.ret v)) { s with heap := h', toks := tk }) →
    codeAny (model prog w) A (.builtin "max.loop" ⟨[.ref I, .none, .ref S], kw⟩) R s := by
  have unw : S ∉ wr := fun h => apart (W.sub _ h)
  intro k
  induction k with
  | zero =>
    intro j s best c hk hj st pb hS hR
    have last : j + 1 = n := by omega
    refine codeAny_builtin F.entry_max_loop ?_
    rw [Around.under_plainId F.plain_max_loop _]
    show wpAny _ A.in1 (seqItems? (.ref S) >>= _) _ _ s
    refine wpAny_bind (wpAny_seqItems hS rfl ?_)
    show wpAny _ A.in1 (tryCatch (pyNext (.ref I)) _ >>= _) _ _ s
    refine wpAny_bind (wpAny_tryCatch (W.done s _ _ (last ▸ st) fun h' tk hk' => ?_))
    have hS' := hk' S _ unw hS
    show wpAny _ A.in1 (updateSeq S (fun _ => #[]) >>= _) _ _ _
    refine wpAny_bind ?_
    refine wpAny_updateSeq hS' rfl (wpAny_bind (wpAny_letGo (wpAny_pure ?_)))
    exact hR best _ tk (by rw [← last]; exact pb) fun b o hbw hbS e => (Heap.get?_update_other _ _ (Ne.symm hbS)).trans (hk' b o hbw e)
  | succ k ih =>
    intro j s best c hk hj st pb hS hR
    have more : j + 1 < n := by omega
    refine codeAny_builtin F.entry_max_loop ?_
    rw [Around.under_plainId F.plain_max_loop _]
    show wpAny _ A.in1 (seqItems? (.ref S) >>= _) _ _ s
    refine wpAny_bind (wpAny_seqItems hS rfl ?_)
    show wpAny _ A.in1 (tryCatch (pyNext (.ref I)) _ >>= _) _ _ s
    refine wpAny_bind (wpAny_tryCatch (W.item (j + 1) s _ _ more st fun v h' tk hP st' hk' => ?_))
    have hS' := hk' S _ unw hS
    show wpAny _ A.in1 (tryCatch (holding [v, v] (richCompare .Gt v best >>= _)) _ >>= _) _ _ _
    refine wpAny_bind (wpAny_tryCatch (wpAny_holding (wpAny_bind (cmp (j + 1) (argBest bt j) v best _ _ _ hP pb ?_))))
    refine wpAny_bind (wpAny_holding (wpAny_truthy_bool ?_))
    refine wpAny_bind (wpAny_letGo (wpAny_pure ?_))
    cases hb : bt (j + 1) (argBest bt j) with
    | true =>
      simp only [if_true]
      refine wpAny_bind ?_
      refine wpAny_updateSeq hS' rfl (wpAny_bind (wpAny_letGo ?_))
      rw [name_max]
      refine wpAny_pure ⟨plainId_quiet F.plain_max_loop _, ih (j + 1) _ v _ (by omega) more (W.frame _ _ _ st' fun b hbf o e => ?_) (by simp only [argBest, hb, if_true]; exact hP) (Heap.get?_update_self _ hS' rfl)
        fun v' h'' tk'' hP' hk'' => ?_⟩
      · exact (Heap.get?_update_other _ _ (fun h : S = b => apart (by rw [h]; exact hbf))).trans e
      · exact hR v' h'' tk'' hP' fun b o hbw hbS e => hk'' b o hbw hbS ((Heap.get?_update_other _ _ (Ne.symm hbS)).trans (hk' b o hbw e))
    | false =>
      simp only [Bool.false_eq_true, if_false]
      refine wpAny_bind (wpAny_letGo ?_)
      rw [name_max]
      refine wpAny_pure ⟨plainId_quiet F.plain_max_loop _, ih (j + 1) _ best c (by omega) more st' (by simp only [argBest, hb, Bool.false_eq_true, if_false]; exact pb) hS' fun v' h'' tk'' hP' hk'' => ?_⟩
      exact hR v' h'' tk'' hP' fun b o hbw hbS e => hk'' b o hbw hbS (hk' b o hbw e)
theorem first_max (W : Walks prog w A.in1 I fp wr n P St) (bt : Nat → Nat → Bool) (cmp : CmpOf prog w A.in1 .Gt P bt) (S : Addr) (apart : S ∉ fp) {d : Value} {s : Shared} {c : Nat} (st : St 0 s.heap)
    (hS : s.heap.get? S = some { cls := .type "list", dict := none, data := .seq #[] c, slots := #[] })
    (h0 : n = 0 → ∀ h' tk, (∀ b o, b ∉ wr → b ≠ S → s.heap.get? b = some o → h'.get? b = some o) → R (.ok (.ret d)) { s with heap := h', toks := tk })
    (hR : 0 < n → ∀ v h' tk, P (argBest bt (n - 1)) v → (∀ b o, b ∉ wr → b ≠ S → s.heap.get? b = some o → h'.get? b = some o) → R (.ok (.ret v)) { s with heap := h', toks := tk }) :
    codeAny (model prog w) A (.builtin "max.loop" ⟨[.ref I, .none, .ref S], [(Str.ofString "default", d)]⟩) R s := by
  have unw : S ∉ wr := fun h => apart (W.sub _ h)
  refine codeAny_builtin F.entry_max_loop ?_
  rw [Around.under_plainId F.plain_max_loop _]
  show wpAny _ A.in1 (seqItems? (.ref S) >>= _) _ _ s
  refine wpAny_bind (wpAny_seqItems hS rfl ?_)
  show wpAny _ A.in1 (tryCatch (pyNext (.ref I)) _ >>= _) _ _ s
  by_cases hn : 0 < n
  · refine wpAny_bind (wpAny_tryCatch (W.item 0 s _ _ hn st fun v h' tk hP st' hk' => ?_))
    have hS' := hk' S _ unw hS
    show wpAny _ A.in1 (updateSeq S (fun _ => #[v, v]) >>= _) _ _ _
    refine wpAny_bind ?_
    refine wpAny_updateSeq hS' rfl ?_
    rw [name_max]
    refine wpAny_pure ⟨plainId_quiet F.plain_max_loop _, on_max W bt cmp S apart _ 0 _ v _ rfl hn (W.frame _ _ _ st' fun b hbf o e => ?_) hP (Heap.get?_update_self _ hS' rfl) fun v' h'' tk'' hP' hk'' => ?_⟩
    · exact (Heap.get?_update_other _ _ (fun h : S = b => apart (by rw [h]; exact hbf))).trans e
    · exact hR hn v' h'' tk'' hP' fun b o hbw hbS e => hk'' b o hbw hbS ((Heap.get?_update_other _ _ (Ne.symm hbS)).trans (hk' b o hbw e))
  · have z : n = 0 := by omega
    subst z
    refine wpAny_bind (wpAny_tryCatch (W.done s _ _ st fun h' tk hk' => ?_))
    show wpAny _ A.in1 (rule _ >>= _) _ _ _
    refine wpAny_bind (wpAny_rule (wpAny_pure ?_))
    exact h0 rfl _ tk fun b o hbw hbS e => hk' b o hbw e
end
section
variable {prog : Program} {w : World} {A : Around} {E : Value → Shared → Prop} {s : Shared} {l : Addr} {xs : Array (Int × Tok)}
theorem call_max_d {d : Value} {Q : Value → Shared → Prop} (hh : A.handled = none) (hl : s.heap.IsList l (intItems xs))
    (h0 : xs.size = 0 → ∀ h' tk, (∀ b o, s.heap.get? b = some o → h'.get? b = some o) → Q d { s with heap := h', toks := tk })
    (h : 0 < xs.size → ∀ v h' tk, (intItems xs)[argBest (fun i j => decide (numAt xs i > numAt xs j)) (xs.size - 1)]? = some v → (∀ b o, s.heap.get? b = some o → h'.get? b = some o) → Q v { s with heap := h', toks := tk }) :
    wpAny (model prog w) A (call (.builtin "max") [.ref l] [(Str.ofString "default", d)]) Q E s := by
  refine PyProof.Rows.kmk_tree F.kind_max F.plain_max F.entry_max (args_max_d _ _) ?_
  show wpAny _ A.in1 (Builtin.Builtins.bindParams "max" ["key", "default"] 0 ⟨[], [(Str.ofString "default", d)]⟩ >>= _) _ _ s
  refine wpAny_bind (wpAny_of_eq (show Builtin.Builtins.bindParams "max" ["key", "default"] 0 ⟨[], [(Str.ofString "default", d)]⟩ = pure [none, some d] from rfl) ?_)
  refine wpAny_bind (wpAny_pure ?_)
  refine wpAny_bind (iter_intList hl fun s2 e st hfp hlI => ?_)
  subst e
  refine wpAny_bind (wpAny_newObj_type ?_)
  rw [name_max]
  have W := Walks.list (prog := prog) (w := w) (A := A.in1) hh s.heap.objs.size l hlI (intItems xs)
  have hz : (intItems xs).size = xs.size := by simp [intItems]
  have out : (s.heap.push { cls := .type "list_iterator", data := .fields #[.ref l, .int 0 0] }).objs.size ∉ [s.heap.objs.size, l] := fun hm => Nat.lt_irrefl _ (hfp _ hm)
  refine wpAny_pure ⟨plainId_quiet F.plain_max_loop _, first_max W _ (CmpOf.ints_gt (numAt xs) (fun _ _ => intItems_at)) _ out (W.frame _ _ _ st fun b _ o e => Heap.get?_push_of_some _ e) (Heap.get?_push_size _ rfl)
    (fun hn h' tk hk => h0 (hz.symm.trans hn) h' tk ?_) (fun hn v h' tk hP hk => h (by rw [← hz]; exact hn) v h' tk (by simpa [intItems] using hP) ?_)⟩
  · exact old_kept fun b o hb e => hk b o hb (Nat.ne_of_lt (Heap.lt_size e)) (Heap.get?_push_of_some _ e)
  · exact old_kept fun b o hb e => hk b o hb (Nat.ne_of_lt (Heap.lt_size e)) (Heap.get?_push_of_some _ e)
end

theorem args_min_d (a v : Value) : argsOk "min" ⟨[a], [(Str.ofString "default", v)]⟩ := by unfold argsOk; kernel_rfl
theorem name_min : (toString "min" ++ toString ".loop" : String) = "min.loop" := by decide
section
variable {prog : Program} {w : World} {A : Around} {R : Result → Shared → Prop} {I : Addr} {fp wr : List Addr} {n : Nat} {P : Nat → Value → Prop} {St : Nat → Heap → Prop} {kw : List (Str × Value)}
theorem on_min (W : Walks prog w A.in1 I fp wr n P St) (bt : Nat → Nat → Bool) (cmp : CmpOf prog w A.in1 .Lt P bt) (S : Addr) (apart : S ∉ fp) :
    ∀ (k j : Nat) (s : Shared) (best : Value) (c : Nat), n - (j + 1) = k → j + 1 ≤ n → St (j + 1) s.heap → P (argBest bt j) best →
    s.heap.get? S = some { cls := .type "list", dict := none, data := .seq #[best, best] c, slots := #[] } →
    (∀ v h' tk, P (argBest bt (n - 1)) v → (∀ b o, b ∉ wr → b ≠ S → s.heap.get? b = some o → h'.get? b = some o) → R (.ok (.ret v)) { s with heap := h', toks := tk }) →
    codeAny (model prog w) A (.builtin "min.loop" ⟨[.ref I, .none, .ref S], kw⟩) R s := by
  have unw : S ∉ wr := fun h => apart (W.sub _ h)
  intro k
  induction k with
  | zero =>
    intro j s best c hk hj st pb hS hR
    have last : j + 1 = n := by omega
    refine codeAny_builtin F.entry_min_loop ?_
    rw [Around.under_plainId F.plain_min_loop _]
    show wpAny _ A.in1 (seqItems? (.ref S) >>= _) _ _ s
    refine wpAny_bind (wpAny_seqItems hS rfl ?_)
    show wpAny _ A.in1 (tryCatch (pyNext (.ref I)) _ >>= _) _ _ s
    refine wpAny_bind (wpAny_tryCatch (W.done s _ _ (last ▸ st) fun h' tk hk' => ?_))
    have hS' := hk' S _ unw hS
    show wpAny _ A.in1 (updateSeq S (fun _ => #[]) >>= _) _ _ _
    refine wpAny_bind ?_
    refine wpAny_updateSeq hS' rfl (wpAny_bind (wpAny_letGo (wpAny_pure ?_)))
    exact hR best _ tk (by rw [← last]; exact pb) fun b o hbw hbS e => (Heap.get?_update_other _ _ (Ne.symm hbS)).trans (hk' b o hbw e)
  | succ k ih =>
    intro j s best c hk hj st pb hS hR
    have more : j + 1 < n := by omega
    refine codeAny_builtin F.entry_min_loop ?_
    rw [Around.under_plainId F.plain_min_loop _]
    show wpAny _ A.in1 (seqItems? (.ref S) >>= _) _ _ s
    refine wpAny_bind (wpAny_seqItems hS rfl ?_)
    show wpAny _ A.in1 (tryCatch (pyNext (.ref I)) _ >>= _) _ _ s
    refine wpAny_bind (wpAny_tryCatch (W.item (j + 1) s _ _ more st fun v h' tk hP st' hk' => ?_))
    have hS' := hk' S _ unw hS
    show wpAny _ A.in1 (tryCatch (holding [v, v] (richCompare .Lt v best >>= _)) _ >>= _) _ _ _
    refine wpAny_bind (wpAny_tryCatch (wpAny_holding (wpAny_bind (cmp (j + 1) (argBest bt j) v best _ _ _ hP pb ?_))))
    refine wpAny_bind (wpAny_holding (wpAny_truthy_bool ?_))
    refine wpAny_bind (wpAny_letGo (wpAny_pure ?_))
    cases hb : bt (j + 1) (argBest bt j) with
    | true =>
      simp only [if_true]
      refine wpAny_bind ?_
      refine wpAny_updateSeq hS' rfl (wpAny_bind (wpAny_letGo ?_))
      rw [name_min]
      refine wpAny_pure ⟨plainId_quiet F.plain_min_loop _, ih (j + 1) _ v _ (by omega) more (W.frame _ _ _ st' fun b hbf o e => ?_) (by simp only [argBest, hb, if_true]; exact hP) (Heap.get?_update_self _ hS' rfl)
        fun v' h'' tk'' hP' hk'' => ?_⟩
      · exact (Heap.get?_update_other _ _ (fun h : S = b => apart (by rw [h]; exact hbf))).trans e
      · exact hR v' h'' tk'' hP' fun b o hbw hbS e => hk'' b o hbw hbS ((Heap.get?_update_other _ _ (Ne.symm hbS)).trans (hk' b o hbw e))
    | false =>
      simp only [Bool.false_eq_true, if_false]
      refine wpAny_bind (wpAny_letGo ?_)
      rw [name_min]
      refine wpAny_pure ⟨plainId_quiet F.plain_min_loop _, ih (j + 1) _ best c (by omega) more st' (by simp only [argBest, hb, Bool.false_eq_true, if_false]; exact pb) hS' fun v' h'' tk'' hP' hk'' => ?_⟩
      exact hR v' h'' tk'' hP' fun b o hbw hbS e => hk'' b o hbw hbS (hk' b o hbw e)
theorem first_min (W : Walks prog w A.in1 I fp wr n P St) (bt : Nat → Nat → Bool) (cmp : CmpOf prog w A.in1 .Lt P bt) (S : Addr) (apart : S ∉ fp) {d : Value} {s : Shared} {c : Nat} (st : St 0 s.heap)
    (hS : s.heap.get? S = some { cls := .type "list", dict := none, data := .seq #[] c, slots := #[] })
    (h0 : n = 0 → ∀ h' tk, (∀ b o, b ∉ wr → b ≠ S → s.heap.get? b = some o → h'.get? b = some o) → R (.ok (.ret d)) { s with heap := h', toks := tk })
    (hR : 0 < n → ∀ v h' tk, P (argBest bt (n - 1)) v → (∀ b o, b ∉ wr → b ≠ S → s.heap.get? b = some o → h'.get? b = some o) → R (.ok (.ret v)) { s with heap := h', toks := tk }) :
    codeAny (model prog w) A (.builtin "min.loop" ⟨[.ref I, .none, .ref S], [(Str.ofString "default", d)]⟩) R s := by
  have unw : S ∉ wr := fun h => apart (W.sub _ h)
  refine codeAny_builtin F.entry_min_loop ?_
  rw [Around.under_plainId F.plain_min_loop _]
  show wpAny _ A.in1 (seqItems? (.ref S) >>= _) _ _ s
  refine wpAny_bind (wpAny_seqItems hS rfl ?_)
  show wpAny _ A.in1 (tryCatch (pyNext (.ref I)) _ >>= _) _ _ s
  by_cases hn : 0 < n
  · refine wpAny_bind (wpAny_tryCatch (W.item 0 s _ _ hn st fun v h' tk hP st' hk' => ?_))
    have hS' := hk' S _ unw hS
    show wpAny _ A.in1 (updateSeq S (fun _ => #[v, v]) >>= _) _ _ _
    refine wpAny_bind ?_
    refine wpAny_updateSeq hS' rfl ?_
    rw [name_min]
    refine wpAny_pure ⟨plainId_quiet F.plain_min_loop _, on_min W bt cmp S apart _ 0 _ v _ rfl hn (W.frame _ _ _ st' fun b hbf o e => ?_) hP (Heap.get?_update_self _ hS' rfl) fun v' h'' tk'' hP' hk'' => ?_⟩
    · exact (Heap.get?_update_other _ _ (fun h : S = b => apart (by rw [h]; exact hbf))).trans e
    · exact hR hn v' h'' tk'' hP' fun b o hbw hbS e => hk'' b o hbw hbS ((Heap.get?_update_other _ _ (Ne.symm hbS)).trans (hk' b o hbw e))
  · have z : n = 0 := by omega
    subst z
    refine wpAny_bind (wpAny_tryCatch (W.done s _ _ st fun h' tk hk' => ?_))
    show wpAny _ A.in1 (rule _ >>= _) _ _ _
    refine wpAny_bind (wpAny_rule (wpAny_pure ?_))
    exact h0 rfl _ tk fun b o hbw hbS e => hk' b o hbw e
end
section
variable {prog : Program} {w : World} {A : Around} {E : Value → Shared → Prop} {s : Shared} {l : Addr} {xs : Array (Int × Tok)}
theorem call_min_d {d : Value} {Q : Value → Shared → Prop} (hh : A.handled = none) (hl : s.heap.IsList l (intItems xs))
    (h0 : xs.size = 0 → ∀ h' tk, (∀ b o, s.heap.get? b = some o → h'.get? b = some o) → Q d { s with heap := h', toks := tk })
    (h : 0 < xs.size → ∀ v h' tk, (intItems xs)[argBest (fun i j => decide (numAt xs i < numAt xs j)) (xs.size - 1)]? = some v → (∀ b o, s.heap.get? b = some o → h'.get? b = some o) → Q v { s with heap := h', toks := tk }) :
    wpAny (model prog w) A (call (.builtin "min") [.ref l] [(Str.ofString "default", d)]) Q E s := by
  refine PyProof.Rows.kmk_tree F.kind_min F.plain_min F.entry_min (args_min_d _ _) ?_
  show wpAny _ A.in1 (Builtin.Builtins.bindParams "min" ["key", "default"] 0 ⟨[], [(Str.ofString "default", d)]⟩ >>= _) _ _ s
  refine wpAny_bind (wpAny_of_eq (show Builtin.Builtins.bindParams "min" ["key", "default"] 0 ⟨[], [(Str.ofString "default", d)]⟩ = pure [none, some d] from rfl) ?_)
  refine wpAny_bind (wpAny_pure ?_)
  refine wpAny_bind (iter_intList hl fun s2 e st hfp hlI => ?_)
  subst e
  refine wpAny_bind (wpAny_newObj_type ?_)
  rw [name_min]
  have W := Walks.list (prog := prog) (w := w) (A := A.in1) hh s.heap.objs.size l hlI (intItems xs)
  have hz : (intItems xs).size = xs.size := by simp [intItems]
  have out : (s.heap.push { cls := .type "list_iterator", data := .fields #[.ref l, .int 0 0] }).objs.size ∉ [s.heap.objs.size, l] := fun hm => Nat.lt_irrefl _ (hfp _ hm)
  refine wpAny_pure ⟨plainId_quiet F.plain_min_loop _, first_min W _ (CmpOf.ints_lt (numAt xs) (fun _ _ => intItems_at)) _ out (W.frame _ _ _ st fun b _ o e => Heap.get?_push_of_some _ e) (Heap.get?_push_size _ rfl)
    (fun hn h' tk hk => h0 (hz.symm.trans hn) h' tk ?_) (fun hn v h' tk hP hk => h (by rw [← hz]; exact hn) v h' tk (by simpa [intItems] using hP) ?_)⟩
  · exact old_kept fun b o hb e => hk b o hb (Nat.ne_of_lt (Heap.lt_size e)) (Heap.get?_push_of_some _ e)
  · exact old_kept fun b o hb e => hk b o hb (Nat.ne_of_lt (Heap.lt_size e)) (Heap.get?_push_of_some _ e)
end

end UB
namespace L2
open PySem PySem.Spec PyProof.Rows
section
variable {X : Cx}

/-- max(xs, default=d) of a list of whole numbers -/
def rDefMax (K : PySem.W.Frag) : List V → List V → Hp → VK → Prop := fun vs zs H Q => ∃ (a : Addr) (ns : List Int) (d : V), vs = [V.ref a] ∧ zs = [d] ∧ SqL K H a (ns.map V.int) ∧ (ns = [] → Q d H) ∧
  ∀ m, m ∈ ns → (∀ y, y ∈ ns → y ≤ m) → Q (.int m) H
theorem cr_def_max (hc : X.calm = true) : CallRK X (.builtin "max") [Str.ofString "default"] (rDefMax X.K) := by
  intro pins s σ H vs zs us ws Q I r rz h
  obtain ⟨a, ns, d, rfl, rfl, hs, q0, q⟩ := h
  obtain ⟨its, rv, hl, _⟩ := I.list hs
  obtain rfl := Vals.ref1 r
  obtain ⟨w1, rfl, e1⟩ := vals1 rz
  have hi := rv.ints
  obtain ⟨xs, e⟩ := hi.allInts.items
  have hn : numsOf (intItems xs).toList = ns := by rw [← e]; exact hi.numsOf
  rw [nums_intItems] at hn
  subst hn
  have hl' := hl.isList
  rw [e] at hl'
  refine UB.call_max_d (I.ok.hd hc) hl' (fun hz h' tk hk => ⟨d, H, I.kept hk, e1, q0 ?_⟩) fun hz v h' tk hv hk => ?_
  · apply List.eq_nil_of_length_eq_zero
    rw [List.length_map, Array.length_toList]
    exact hz
  · obtain ⟨t, rfl⟩ := intItems_at hv
    obtain ⟨h1, h2⟩ := argBest_gt (numAt xs) (xs.size - 1)
    refine ⟨.int _, H, I.kept hk, ⟨t, rfl⟩, q _ ?_ fun y hy => ?_⟩
    · rw [numAt_eq]; exact PySem.getD_mem (by rw [List.length_map, Array.length_toList]; omega)
    · obtain ⟨j, hj, rfl⟩ := mem_getD hy
      rw [List.length_map, Array.length_toList] at hj
      rw [← numAt_eq]; exact h2 j (by omega)

/-- min(xs, default=d) of a list of whole numbers -/
def rDefMin (K : PySem.W.Frag) : List V → List V → Hp → VK → Prop := fun vs zs H Q => ∃ (a : Addr) (ns : List Int) (d : V), vs = [V.ref a] ∧ zs = [d] ∧ SqL K H a (ns.map V.int) ∧ (ns = [] → Q d H) ∧
  ∀ m, m ∈ ns → (∀ y, y ∈ ns → m ≤ y) → Q (.int m) H
theorem cr_def_min (hc : X.calm = true) : CallRK X (.builtin "min") [Str.ofString "default"] (rDefMin X.K) := by
  intro pins s σ H vs zs us ws Q I r rz h
  obtain ⟨a, ns, d, rfl, rfl, hs, q0, q⟩ := h
  obtain ⟨its, rv, hl, _⟩ := I.list hs
  obtain rfl := Vals.ref1 r
  obtain ⟨w1, rfl, e1⟩ := vals1 rz
  have hi := rv.ints
  obtain ⟨xs, e⟩ := hi.allInts.items
  have hn : numsOf (intItems xs).toList = ns := by rw [← e]; exact hi.numsOf
  rw [nums_intItems] at hn
  subst hn
  have hl' := hl.isList
  rw [e] at hl'
  refine UB.call_min_d (I.ok.hd hc) hl' (fun hz h' tk hk => ⟨d, H, I.kept hk, e1, q0 ?_⟩) fun hz v h' tk hv hk => ?_
  · apply List.eq_nil_of_length_eq_zero
    rw [List.length_map, Array.length_toList]
    exact hz
  · obtain ⟨t, rfl⟩ := intItems_at hv
    obtain ⟨h1, h2⟩ := argBest_lt (numAt xs) (xs.size - 1)
    refine ⟨.int _, H, I.kept hk, ⟨t, rfl⟩, q _ ?_ fun y hy => ?_⟩
    · rw [numAt_eq]; exact PySem.getD_mem (by rw [List.length_map, Array.length_toList]; omega)
    · obtain ⟨j, hj, rfl⟩ := mem_getD hy
      rw [List.length_map, Array.length_toList] at hj
      rw [← numAt_eq]; exact h2 j (by omega)
end
end L2
/-! The mirror: the program's own data and steps as total functions of plain Lean. -/
namespace Mir
open Ue03 (Change)

/-- one state, as the program keeps it -/
structure Nd where
  number : Nat
  parent : Option Nat
  time : Nat
  changes : List Change
  text : List Nat
  kept : Nat
  children : List Nat
  visited : Option Nat
structure Tr where
  nodes : List Nd
  current : Nat
  next : Nat
structure Se where
  tree : Tr
  clock : Nat
  group : Option (List Change × List Nat)

abbrev Res := Except Int (Se × List Nat)

def Nd.root (text : List Nat) : Nd := ⟨0, none, 0, [], text, 0, [], none⟩
def Tr.fresh (text : List Nat) : Tr := ⟨[Nd.root text], 0, 1⟩
def Se.fresh : Se := ⟨Tr.fresh [], 0, none⟩
def Tr.find (t : Tr) (n : Nat) : Option Nd := t.nodes.find? fun x => x.number == n
def Tr.get (t : Tr) (n : Nat) : Nd := (t.find n).getD (Nd.root [])
def Tr.mod (t : Tr) (n : Nat) (f : Nd → Nd) : Tr := { t with nodes := t.nodes.map fun x => if x.number = n then f x else x }
def Tr.add (t : Tr) (x : Nd) : Tr := { t with nodes := t.nodes ++ [x] }
def Tr.del (t : Tr) (n : Nat) : Tr := { t with nodes := t.nodes.filter fun x => x.number != n }
def Tr.see (t : Tr) (a b : Nat) : Tr := t.mod a fun x => { x with visited := some b }

def Nd.liked (x : Nd) : Nat := match x.visited with
  | some v => if v ∈ x.children then v else x.children.getLastD 0
  | none => x.children.getLastD 0

/-- from a state up to the root -/
def Tr.up : Nat → Tr → Nat → List Nat
  | 0, _, n => [n]
  | f + 1, t, n => match (t.get n).parent with
    | none => [n]
    | some p => n :: Tr.up f t p
def Tr.way (t : Tr) (n : Nat) : List Nat := (Tr.up n t n).reverse
/-- how far two ways go together -/
def both : List Nat → List Nat → Nat
  | a :: l, b :: m => if a = b then both l m + 1 else 0
  | _, _ => 0
def Tr.shared (t : Tr) (a b : Nat) : Nat := both (t.way a) (t.way b)
def Tr.pathUp (t : Tr) (a b : Nat) : List Nat := ((t.way a).drop (t.shared a b)).reverse
def Tr.pathTurn (t : Tr) (a b : Nat) : Nat := (t.way a).getD (t.shared a b - 1) 0
def Tr.pathDown (t : Tr) (a b : Nat) : List Nat := (t.way b).drop (t.shared a b)
def Tr.sees (t : Tr) (l : List (Nat × Nat)) : Tr := l.foldl (fun t p => t.see p.1 p.2) t
def Tr.visit (t : Tr) (n : Nat) : Tr := { t.sees ((t.way n).zip ((t.way n).drop 1)) with current := n }
def Tr.leaves (t : Tr) : List Nat := (t.nodes.filter fun x => x.children.isEmpty).map fun x => x.number
def Tr.canGo (t : Tr) (n : Nat) : Bool := n != t.current && (t.get n).kept == 0
def Tr.firstLeaf (t : Tr) : Option Nat := (t.leaves.filter t.canGo).head?
def Tr.root (t : Tr) : Nat := (t.nodes.map fun x => x.number).headD 0
def Tr.rootCanGo (t : Tr) : Bool := t.canGo t.root && (t.get t.root).children.length == 1
def Tr.delLeaf (t : Tr) (n : Nat) : Tr := (t.del n).mod ((t.get n).parent.getD 0) fun x => { x with children := x.children.erase n }
def Tr.delRoot (t : Tr) : Tr := (t.del t.root).mod ((t.get t.root).children.headD 0) fun x => { x with parent := none, changes := [] }
def lessLeaves : Nat → Tr → Nat → List Nat → Tr × List Nat
  | 0, t, _, l => (t, l)
  | f + 1, t, n, l => if n < t.nodes.length then (match t.firstLeaf with
      | none => (t, l)
      | some x => lessLeaves f (t.delLeaf x) n (l ++ [x])) else (t, l)
def lessRoots : Nat → Tr → Nat → List Nat → Tr × List Nat
  | 0, t, _, l => (t, l)
  | f + 1, t, n, l => if n < t.nodes.length ∧ t.rootCanGo = true then lessRoots f t.delRoot n (l ++ [t.root]) else (t, l)
def Tr.forget (t : Tr) (n : Nat) : Tr × List Nat :=
  let x := lessLeaves t.nodes.length t n []
  lessRoots x.1.nodes.length x.1 n x.2
def Tr.addState (t : Tr) (time : Nat) (changes : List Change) (text : List Nat) : Tr :=
  { ((t.add ⟨t.next, some t.current, time, changes, text, 0, [], none⟩).mod t.current fun x => { x with children := x.children ++ [t.next] }).see t.current t.next with current := t.next, next := t.next + 1 }

def Se.text (s : Se) : List Nat := match s.group with
  | some g => g.2
  | none => (s.tree.get s.tree.current).text
def counted (l : List Nat) : List Nat := l.length :: l
def isB (l : List Nat) : Bool := l.all fun b => decide (b ≤ 255)
def Se.alone (s : Se) (r : Res) : Res := if s.group.isSome = true then .error (-9) else r
def Se.move (s : Se) (n : Nat) : Se × List Nat :=
  ({ s with tree := s.tree.visit n }, [(s.tree.pathUp s.tree.current n).length, (s.tree.pathDown s.tree.current n).length, (s.tree.get n).text.length])
def Se.inOrder (s : Se) (l : List Nat) (n : Nat) : Res :=
  if n = 0 then .error (-1) else if l.length < n then .error (-7) else
    let x := l.getD (n - 1) 0
    .ok ((s.move x).1, x :: (s.move x).2)
def Se.put (s : Se) (l : List Change) (text : List Nat) : Se × List Nat := ({ s with tree := s.tree.addState s.clock l text }, [s.tree.next, text.length])
def doStart (s : Se) (t : List Nat) : Res := if 300 < t.length ∨ isB t = false then .error (-1) else .ok (⟨Tr.fresh t, 0, none⟩, [t.length])
def doWait (s : Se) (n : Nat) : Res := if 1000000 < s.clock + n then .error (-1) else .ok ({ s with clock := s.clock + n }, [s.clock + n])
def doChange (s : Se) (p o : Nat) (w : List Nat) : Res :=
  if s.text.length < p + o ∨ isB w = false then .error (-1) else if 300 < s.text.length - o + w.length then .error (-6) else
    let x := Ue03.changed s.text ⟨p, o, w⟩
    match s.group with
    | some g => .ok ({ s with group := some (g.1 ++ [⟨p, o, w⟩], x) }, [s.tree.next, x.length])
    | none => .ok (s.put [⟨p, o, w⟩] x)
def doOpen (s : Se) : Res := s.alone (.ok ({ s with group := some ([], s.text) }, [s.tree.next]))
def doClose (s : Se) : Res := match s.group with
  | none => .error (-9)
  | some g => if g.1 = [] then .ok ({ s with group := none }, [s.tree.current]) else .ok ({ s with group := none, tree := s.tree.addState s.clock g.1 g.2 }, [s.tree.next])
def doUndo (s : Se) : Res := s.alone (match (s.tree.get s.tree.current).parent with
  | none => .error (-7)
  | some p => .ok ({ s with tree := { s.tree with current := p } }, [p, (s.tree.get p).text.length]))
def doRedo (s : Se) : Res := s.alone (
  let x := s.tree.get s.tree.current
  if x.children = [] then .error (-7) else .ok ({ s with tree := { s.tree.see s.tree.current x.liked with current := x.liked } }, [x.liked, (s.tree.get x.liked).text.length]))
def doGo (s : Se) (n : Nat) : Res := s.alone (if (s.tree.find n).isNone = true then .error (-2) else .ok (s.move n))
def Tr.before (t : Tr) : List Nat := ((t.nodes.map fun x => x.number).filter fun n => decide (n < t.current)).reverse
def Tr.behind (t : Tr) : List Nat := (t.nodes.map fun x => x.number).filter fun n => decide (t.current < n)
def Se.there (s : Se) (n : Nat) : List Nat := ((s.tree.nodes.filter fun x => decide (x.time + n ≤ s.clock)).map fun x => x.number).reverse
def doEarlier (s : Se) (n : Nat) : Res := s.alone (s.inOrder s.tree.before n)
def doLater (s : Se) (n : Nat) : Res := s.alone (s.inOrder s.tree.behind n)
def doAgo (s : Se) (n : Nat) : Res := s.alone (s.inOrder (s.there n) 1)
def doText (s : Se) : Res := .ok (s, counted s.text)
def doInfo (s : Se) (n : Nat) : Res := match s.tree.find n with
  | none => .error (-2)
  | some x => .ok (s, [match x.parent with
      | none => 0
      | some p => p + 1, x.time, (s.tree.way n).length - 1, x.kept, x.changes.length] ++ counted x.children)
def doLeaves (s : Se) : Res := .ok (s, counted s.tree.leaves)
def doPath (s : Se) (a b : Nat) : Res := if (s.tree.find a).isNone = true ∨ (s.tree.find b).isNone = true then .error (-2) else
  .ok (s, counted (s.tree.pathUp a b ++ [s.tree.pathTurn a b] ++ s.tree.pathDown a b))
def origin1 (n : Nat) (l : List Nat) (c : Change) : List Nat := Ue03.put l c.at_ c.out (List.replicate c.in_.length n)
def Tr.origins (t : Tr) (n : Nat) : List Nat :=
  (t.way n).foldl (fun l k => (t.get k).changes.foldl (origin1 k) l) (List.replicate (t.get ((t.way n).headD 0)).text.length ((t.way n).headD 0))
def doOrigins (s : Se) : Res := s.alone (.ok (s, counted (s.tree.origins s.tree.current)))
/-- where a region starts behind a change -/
def shift (len : Nat) (o : Option Nat) (c : Change) : Option Nat := o.bind fun a => if a + len ≤ c.at_ then some a else if c.at_ + c.out ≤ a then some (a + c.in_.length - c.out) else none
def Tr.region (t : Tr) (n : Nat) (c : Change) : Option Nat :=
  (((t.way t.current).drop ((t.way t.current).idxOf n + 1)).flatMap fun k => (t.get k).changes).foldl (shift c.in_.length) (some c.at_)
def doRevert (s : Se) (n : Nat) : Res := s.alone (match s.tree.find n with
  | none => .error (-2)
  | some x => match x.parent with
    | none => .error (-6)
    | some p => if ¬ n ∈ s.tree.way s.tree.current then .error (-6) else if 1 < x.changes.length then .error (-4) else
      let c := x.changes.headD ⟨0, 0, []⟩
      match s.tree.region n c with
      | none => .error (-8)
      | some a =>
        let d : Change := ⟨a, c.in_.length, ((s.tree.get p).text.drop c.at_).take c.out⟩
        let y := Ue03.changed s.text d
        if 300 < y.length then .error (-5) else .ok (s.put [d] y))
def doKeep (s : Se) (n k : Nat) : Res := if (s.tree.find n).isNone = true then .error (-2) else .ok ({ s with tree := s.tree.mod n fun x => { x with kept := k } }, [0])
def doForget (s : Se) (n : Nat) : Res := s.alone (if n = 0 then .error (-1) else .ok ({ s with tree := (s.tree.forget n).1 }, counted (s.tree.forget n).2))
def doTextOf (s : Se) (n : Nat) : Res := match s.tree.find n with
  | none => .error (-2)
  | some x => .ok (s, counted x.text)

def carry (s : Se) (c : Nat) (p row : List Nat) : Res := match c with
  | 0 => doStart s row
  | 1 => doWait s (p.getD 0 0)
  | 2 => doChange s (p.getD 0 0) (p.getD 1 0) row
  | 3 => doOpen s
  | 4 => doClose s
  | 5 => doUndo s
  | 6 => doRedo s
  | 7 => doGo s (p.getD 0 0)
  | 8 => doEarlier s (p.getD 0 0)
  | 9 => doLater s (p.getD 0 0)
  | 10 => doAgo s (p.getD 0 0)
  | 11 => doText s
  | 12 => doInfo s (p.getD 0 0)
  | 13 => doLeaves s
  | 14 => doPath s (p.getD 0 0) (p.getD 1 0)
  | 15 => doOrigins s
  | 16 => doRevert s (p.getD 0 0)
  | 17 => doKeep s (p.getD 0 0) (p.getD 1 0)
  | 18 => doForget s (p.getD 0 0)
  | _ => doTextOf s (p.getD 0 0)
def intL (l : List Nat) : List Int := l.map fun (n : Nat) => (n : Int)
/-- what a call leaves and answers -/
def turn (s : Se) (r : Res) : Se × List Int := match r with
  | .ok x => (x.1, intL x.2)
  | .error c => (s, [c])
def plains : List Nat := [0, 1, 2, 0, 0, 0, 0, 1, 1, 1, 1, 0, 1, 0, 2, 0, 1, 2, 1, 1]
def plainOf (c : Nat) : Nat := plains.getD c 0
def hasRow (c : Nat) : Bool := c == 0 || c == 2
/-- one call off the front: its number, its numbers, its row, how many numbers it takes -/
def readRow (l : List Nat) : List Nat := if hasRow (l.headD 0) = true then (l.drop (plainOf (l.headD 0) + 2)).take (l.getD (plainOf (l.headD 0) + 1) 0) else []
def readLen (l : List Nat) : Nat := if hasRow (l.headD 0) = true then plainOf (l.headD 0) + 2 + l.getD (plainOf (l.headD 0) + 1) 0 else plainOf (l.headD 0) + 1
def readPlain (l : List Nat) : List Nat := (l.drop 1).take (plainOf (l.headD 0))
def step (s : Se) (l : List Nat) : Se × List Int := turn s (carry s (l.headD 0) (readPlain l) (readRow l))
def run : Nat → Se → List Nat → List Int
  | 0, _, _ => []
  | f + 1, s, l => if l = [] then [] else ((step s l).2.length : Int) :: (step s l).2 ++ run f (step s l).1 (l.drop (readLen l))
def answers (l : List Int) : List Int := run l.length Se.fresh (l.map Int.toNat)
end Mir
namespace Mir
open Ue03 (Change)
/-- what holds of a tree between two calls; B bounds the numbers that are given -/
structure Tr.WF (B : Nat) (t : Tr) : Prop where
  sorted : (t.nodes.map fun x => x.number).Pairwise (· < ·)
  below : ∀ x ∈ t.nodes, x.number < t.next
  next : t.next ≤ B
  par : ∀ x ∈ t.nodes, ∀ p, x.parent = some p → p < x.number ∧ ∃ y ∈ t.nodes, y.number = p
  kids : ∀ x ∈ t.nodes, x.children = (t.nodes.filter fun y => y.parent == some x.number).map fun y => y.number
  cur : ∃ x ∈ t.nodes, x.number = t.current
  root : ∃ x r, t.nodes = x :: r ∧ x.parent = none ∧ x.changes = [] ∧ ∀ y ∈ r, y.parent ≠ none ∧ y.changes ≠ []
  text : ∀ x ∈ t.nodes, ∀ y ∈ t.nodes, x.parent = some y.number → x.text = x.changes.foldl Ue03.changed y.text
  short : ∀ x ∈ t.nodes, x.text.length ≤ 300
  few : ∀ x ∈ t.nodes, x.changes.length ≤ B ∧ ∀ c ∈ x.changes, c.in_.length ≤ 350
  flag : ∀ x ∈ t.nodes, x.kept ≤ 1
structure Se.WF (B : Nat) (s : Se) : Prop where
  tree : s.tree.WF B
  grp : ∀ g, s.group = some g → g.2.length ≤ 300 ∧ g.1.length ≤ B ∧ ∀ c ∈ g.1, c.in_.length ≤ 350
/-- the calls that are left can be read one by one, and each finds the session in order -/
def Fine : Nat → Se → List Nat → Prop
  | 0, _, l => l = []
  | f + 1, s, l => l = [] ∨ (l.headD 0 ≤ 19 ∧ readLen l ≤ l.length ∧ (l.headD 0 = 17 → (readPlain l).getD 1 0 ≤ 1) ∧ (readRow l).length ≤ 350 ∧ s.WF 100 ∧ Fine f (step s l).1 (l.drop (readLen l)))
end Mir
namespace Mir
open Ue03 (Change)
/-! ### finding -/
section
variable {B : Nat} {t : Tr} {n : Nat} {x y : Nd}
theorem find_num' (e : t.find n = some x) : x.number = n := by
  have := List.find?_some e
  simpa using this
theorem find_mem' (e : t.find n = some x) : x ∈ t.nodes := List.mem_of_find?_eq_some e
theorem find_none_iff : t.find n = none ↔ ∀ x ∈ t.nodes, x.number ≠ n := by
  unfold Tr.find
  rw [List.find?_eq_none]
  simp
theorem find_isSome : (t.find n).isSome = true ↔ ∃ x ∈ t.nodes, x.number = n := by
  unfold Tr.find
  rw [List.find?_isSome]
  simp
theorem nums_inj {l : List Nd} (h : (l.map fun x => x.number).Pairwise (· < ·)) : ∀ {x y : Nd}, x ∈ l → y ∈ l → x.number = y.number → x = y := by
  induction l with
  | nil =>
    intro x y hx
    cases hx
  | cons a r ih =>
    intro x y hx hy e
    rw [List.map_cons, List.pairwise_cons] at h
    rcases List.mem_cons.mp hx with rfl | hx'
    · rcases List.mem_cons.mp hy with rfl | hy'
      · rfl
      · have := h.1 _ (List.mem_map.mpr ⟨y, hy', rfl⟩)
        omega
    · rcases List.mem_cons.mp hy with rfl | hy'
      · have := h.1 _ (List.mem_map.mpr ⟨x, hx', rfl⟩)
        omega
      · exact ih h.2 hx' hy' e
theorem find_of (w : t.WF B) (hx : x ∈ t.nodes) (e : x.number = n) : t.find n = some x := by
  cases q : t.find n with
  | none => exact absurd e (find_none_iff.mp q x hx)
  | some y => rw [nums_inj w.sorted (find_mem' q) hx ((find_num' q).trans e.symm)]
theorem get_of (w : t.WF B) (hx : x ∈ t.nodes) (e : x.number = n) : t.get n = x := by
  unfold Tr.get
  rw [find_of w hx e]
  rfl
theorem get_find (e : t.find n = some x) : t.get n = x := by
  unfold Tr.get
  rw [e]
  rfl
theorem find_get (h : (t.find n).isSome = true) : t.find n = some (t.get n) := by
  obtain ⟨x, e⟩ := Option.isSome_iff_exists.mp h
  rw [e, get_find e]
theorem get_num (h : (t.find n).isSome = true) : (t.get n).number = n := find_num' (find_get h)
theorem get_mem (h : (t.find n).isSome = true) : t.get n ∈ t.nodes := find_mem' (find_get h)
theorem Tr.WF.here (w : t.WF B) : (t.find t.current).isSome = true := find_isSome.mpr w.cur
theorem Tr.WF.parSome (w : t.WF B) {p : Nat} (h : (t.find n).isSome = true) (e : (t.get n).parent = some p) : (t.find p).isSome = true ∧ p < n := by
  obtain ⟨h1, h2⟩ := w.par _ (get_mem h) p e
  rw [get_num h] at h1
  exact ⟨find_isSome.mpr h2, h1⟩
/-! ### ways -/
theorem up_fuel (w : t.WF B) : ∀ n, (t.find n).isSome = true → ∀ f g, n ≤ f → n ≤ g → Tr.up f t n = Tr.up g t n := by
  intro n
  induction n using Nat.strongRecOn with
  | ind n ih =>
    intro h f g hf hg
    cases q : (t.get n).parent with
    | none =>
      have z : ∀ k, Tr.up k t n = [n] := by
        intro k
        cases k with
        | zero => rfl
        | succ k => show (match (t.get n).parent with | none => [n] | some p => n :: Tr.up k t p) = [n]; rw [q]
      rw [z, z]
    | some p =>
      obtain ⟨h1, h2⟩ := w.parSome h q
      have z : ∀ k, n ≤ k + 1 → Tr.up (k + 1) t n = n :: Tr.up k t p := by
        intro k _
        show (match (t.get n).parent with | none => [n] | some p => n :: Tr.up k t p) = n :: Tr.up k t p
        rw [q]
      obtain ⟨f', rfl⟩ : ∃ f', f = f' + 1 := ⟨f - 1, by omega⟩
      obtain ⟨g', rfl⟩ : ∃ g', g = g' + 1 := ⟨g - 1, by omega⟩
      rw [z f' hf, z g' hg, ih p h2 h1 f' g' (by omega) (by omega)]
theorem up_none (w : t.WF B) (e : (t.get n).parent = none) : Tr.up n t n = [n] := by
  cases n with
  | zero => rfl
  | succ k => show (match (t.get (k + 1)).parent with | none => [k + 1] | some p => (k + 1) :: Tr.up k t p) = [k + 1]; rw [e]
theorem up_some (w : t.WF B) {p : Nat} (h : (t.find n).isSome = true) (e : (t.get n).parent = some p) : Tr.up n t n = n :: Tr.up p t p := by
  obtain ⟨h1, h2⟩ := w.parSome h e
  obtain ⟨k, rfl⟩ : ∃ k, n = k + 1 := ⟨n - 1, by omega⟩
  show (match (t.get (k + 1)).parent with | none => [k + 1] | some p => (k + 1) :: Tr.up k t p) = _
  rw [e]
  show (k + 1) :: Tr.up k t p = _
  rw [up_fuel w p h1 k p (by omega) (Nat.le_refl _)]
theorem way_none (w : t.WF B) (e : (t.get n).parent = none) : t.way n = [n] := by
  unfold Tr.way
  rw [up_none w e]
  rfl
theorem way_some (w : t.WF B) {p : Nat} (h : (t.find n).isSome = true) (e : (t.get n).parent = some p) : t.way n = t.way p ++ [n] := by
  unfold Tr.way
  rw [up_some w h e, List.reverse_cons]
/-- a proof along a way -/
theorem way_ind (w : t.WF B) {P : Nat → Prop} (h0 : ∀ n, (t.find n).isSome = true → (t.get n).parent = none → P n) (hs : ∀ n p, (t.find n).isSome = true → (t.get n).parent = some p → (t.find p).isSome = true → p < n → P p → P n) :
    ∀ n, (t.find n).isSome = true → P n := by
  intro n
  induction n using Nat.strongRecOn with
  | ind n ih =>
    intro h
    cases q : (t.get n).parent with
    | none => exact h0 n h q
    | some p =>
      obtain ⟨h1, h2⟩ := w.parSome h q
      exact hs n p h q h1 h2 (ih p h2 h1)
theorem way_mem (w : t.WF B) : ∀ n, (t.find n).isSome = true → ∀ m ∈ t.way n, (t.find m).isSome = true ∧ m ≤ n := by
  refine way_ind w (fun n h e m hm => ?_) fun n p h e hp lt ih m hm => ?_
  · rw [way_none w e] at hm
    rw [List.mem_singleton.mp hm]
    exact ⟨h, Nat.le_refl _⟩
  · rw [way_some w h e] at hm
    rcases List.mem_append.mp hm with hm | hm
    · exact ⟨(ih m hm).1, by have := (ih m hm).2; omega⟩
    · rw [List.mem_singleton.mp hm]
      exact ⟨h, Nat.le_refl _⟩
theorem Tr.WF.rootNode (w : t.WF B) : (t.find t.root).isSome = true ∧ (t.get t.root).parent = none ∧ (t.get t.root).changes = [] ∧ ∀ x ∈ t.nodes, x.parent = none → x.number = t.root := by
  obtain ⟨x, r, e, h1, h2, h3⟩ := w.root
  have er : t.root = x.number := by
    unfold Tr.root
    rw [e]
    rfl
  have hx : x ∈ t.nodes := by
    rw [e]
    exact List.mem_cons_self
  rw [er, get_of w hx rfl]
  refine ⟨find_isSome.mpr ⟨x, hx, rfl⟩, h1, h2, fun y hy e' => ?_⟩
  rw [e] at hy
  rcases List.mem_cons.mp hy with rfl | hy
  · rfl
  · exact absurd e' (h3 y hy).1
theorem way_root (w : t.WF B) : ∀ n, (t.find n).isSome = true → ∃ r, t.way n = t.root :: r := by
  refine way_ind w (fun n h e => ?_) fun n p h e hp lt ih => ?_
  · refine ⟨[], ?_⟩
    rw [way_none w e]
    have := w.rootNode.2.2.2 _ (get_mem h) e
    rw [get_num h] at this
    rw [this]
  · obtain ⟨r, q⟩ := ih
    exact ⟨r ++ [n], by rw [way_some w h e, q]; rfl⟩
theorem way_last (w : t.WF B) (h : (t.find n).isSome = true) : ∃ r, t.way n = r ++ [n] := by
  cases q : (t.get n).parent with
  | none => exact ⟨[], way_none w q⟩
  | some p => exact ⟨t.way p, way_some w h q⟩
theorem way_sorted (w : t.WF B) : ∀ n, (t.find n).isSome = true → (t.way n).Pairwise (· < ·) := by
  refine way_ind w (fun n h e => ?_) fun n p h e hp lt ih => ?_
  · rw [way_none w e]
    exact List.pairwise_singleton _ _
  · rw [way_some w h e, List.pairwise_append]
    refine ⟨ih, List.pairwise_singleton _ _, fun a ha b hb => ?_⟩
    rw [List.mem_singleton.mp hb]
    have := (way_mem w p hp a ha).2
    omega
theorem both_le : ∀ l m : List Nat, both l m ≤ l.length ∧ both l m ≤ m.length
  | [], _ => ⟨Nat.zero_le _, Nat.zero_le _⟩
  | _ :: _, [] => ⟨Nat.zero_le _, Nat.zero_le _⟩
  | a :: l, b :: m => by
    unfold both
    have := both_le l m
    split
    · simp only [List.length_cons]
      omega
    · exact ⟨Nat.zero_le _, Nat.zero_le _⟩
theorem shared_pos (w : t.WF B) {m : Nat} (h : (t.find n).isSome = true) (hm : (t.find m).isSome = true) : 1 ≤ t.shared n m := by
  obtain ⟨r, e⟩ := way_root w n h
  obtain ⟨q, e2⟩ := way_root w m hm
  unfold Tr.shared
  rw [e, e2]
  unfold both
  rw [if_pos rfl]
  omega
theorem both_more : ∀ {l m : List Nat} {i : Nat}, i ≤ both l m → (h1 : i < l.length) → (h2 : i < m.length) → l[i] = m[i] → i + 1 ≤ both l m
  | a :: l, b :: m, 0, _, _, _, e => by
    have e' : a = b := e
    unfold both
    rw [if_pos e']
    omega
  | a :: l, b :: m, i + 1, h, h1, h2, e => by
    unfold both at h ⊢
    by_cases c : a = b
    · rw [if_pos c] at h ⊢
      have := both_more (l := l) (m := m) (i := i) (by omega) (by simpa using h1) (by simpa using h2) (by simpa using e)
      omega
    · rw [if_neg c] at h
      omega
theorem both_stop : ∀ {l m : List Nat} {i : Nat}, i ≤ both l m → (h1 : i < l.length) → (h2 : i < m.length) → ¬ l[i] = m[i] → i = both l m
  | a :: l, b :: m, 0, _, _, _, e => by
    have e' : ¬ a = b := e
    unfold both
    rw [if_neg e']
  | a :: l, b :: m, i + 1, h, h1, h2, e => by
    unfold both at h ⊢
    by_cases c : a = b
    · rw [if_pos c] at h ⊢
      have := both_stop (l := l) (m := m) (i := i) (by omega) (by simpa using h1) (by simpa using h2) (by simpa using e)
      omega
    · rw [if_neg c] at h
      omega
/-! ### how many -/
theorem inc_len : ∀ (l : List Nat) (k : Nat), l.Pairwise (· < ·) → (∀ x ∈ l, k ≤ x) → ∀ b, (∀ x ∈ l, x < b) → l.length + k ≤ b ∨ l = []
  | [], _, _, _, _, _ => .inr rfl
  | a :: l, k, h, hk, b, hb => by
    left
    rw [List.pairwise_cons] at h
    have h1 := hk a List.mem_cons_self
    have h2 := hb a List.mem_cons_self
    rcases inc_len l (a + 1) h.2 (fun x hx => h.1 x hx) b (fun x hx => hb x (List.mem_cons_of_mem _ hx)) with z | z
    · simp only [List.length_cons]
      omega
    · subst z
      simp only [List.length_cons, List.length_nil]
      omega
theorem Tr.WF.count (w : t.WF B) : t.nodes.length ≤ B := by
  have h := inc_len (t.nodes.map fun x => x.number) 0 w.sorted (fun _ _ => Nat.zero_le _) t.next (fun x hx => by
    obtain ⟨y, hy, e⟩ := List.mem_map.mp hx
    rw [← e]
    exact w.below y hy)
  rw [List.length_map] at h
  have := w.next
  rcases h with h | h
  · omega
  · have : t.nodes.length = 0 := by
      rw [← List.length_map (f := fun x : Nd => x.number), h]
      rfl
    omega
theorem way_len (w : t.WF B) (h : (t.find n).isSome = true) : (t.way n).length ≤ B := by
  have h1 := inc_len (t.way n) 0 (way_sorted w n h) (fun _ _ => Nat.zero_le _) t.next (fun x hx => by
    obtain ⟨a, _⟩ := way_mem w n h x hx
    have := w.below _ (get_mem a)
    rw [get_num a] at this
    exact this)
  have := w.next
  rcases h1 with h | h
  · omega
  · rw [h]
    exact Nat.zero_le _
theorem kids_sorted (w : t.WF B) (h : x ∈ t.nodes) : x.children.Pairwise (· < ·) := by
  rw [w.kids x h]
  exact (List.Pairwise.sublist (List.Sublist.map _ List.filter_sublist) w.sorted)
theorem kids_mem (w : t.WF B) (h : x ∈ t.nodes) {m : Nat} : m ∈ x.children ↔ ∃ y ∈ t.nodes, y.number = m ∧ y.parent = some x.number := by
  rw [w.kids x h, List.mem_map]
  constructor
  · rintro ⟨y, hy, e⟩
    obtain ⟨h1, h2⟩ := List.mem_filter.mp hy
    exact ⟨y, h1, e, by simpa using h2⟩
  · rintro ⟨y, hy, e, p⟩
    exact ⟨y, List.mem_filter.mpr ⟨hy, by simpa using p⟩, e⟩
theorem kids_len (w : t.WF B) (h : x ∈ t.nodes) : x.children.length ≤ B := by
  rw [w.kids x h, List.length_map]
  exact Nat.le_trans (List.length_filter_le _ _) w.count
end
end Mir
namespace Mir
open Ue03 (Change)
section
variable {B : Nat} {t : Tr} {n p : Nat} {x y : Nd}
/-- nobody is a child of a leaf -/
theorem no_child (w : t.WF B) (hx : x ∈ t.nodes) (hc : x.children = []) (hy : y ∈ t.nodes) : y.parent ≠ some x.number := fun e => by
  have : y.number ∈ x.children := (kids_mem w hx).mpr ⟨y, hy, rfl, e⟩
  rw [hc] at this
  cases this
theorem root_alone (w : t.WF B) (hc : (t.get t.root).children = []) : ∀ n, (t.find n).isSome = true → n = t.root := by
  obtain ⟨h1, h2, h3, h4⟩ := w.rootNode
  refine way_ind w (fun n h e => ?_) fun n p h e hp lt ih => ?_
  · have := h4 _ (get_mem h) e
    rw [get_num h] at this
    exact this
  · subst ih
    have z := no_child w (get_mem h1) hc (get_mem h)
    rw [get_num h1] at z
    exact absurd e z
theorem firstLeaf_some (w : t.WF B) (h : t.firstLeaf = some n) : ∃ x p, t.find n = some x ∧ x.children = [] ∧ n ≠ t.current ∧ x.kept = 0 ∧ x.parent = some p := by
  unfold Tr.firstLeaf at h
  have m : n ∈ t.leaves.filter t.canGo := List.mem_of_head? h
  obtain ⟨m1, m2⟩ := List.mem_filter.mp m
  obtain ⟨x, hx, e⟩ := List.mem_map.mp m1
  obtain ⟨hx, hc⟩ := List.mem_filter.mp hx
  have hf := find_of w hx e
  have hc' : x.children = [] := by simpa using hc
  unfold Tr.canGo at m2
  rw [get_find hf, Bool.and_eq_true] at m2
  have hne : n ≠ t.current := by simpa using m2.1
  have hk : x.kept = 0 := by simpa using m2.2
  cases q : x.parent with
  | some p => exact ⟨x, p, hf, hc', hne, hk, q⟩
  | none =>
    exfalso
    obtain ⟨h1, h2, h3, h4⟩ := w.rootNode
    have hr := h4 x hx q
    have e2 : t.get t.root = x := get_of w hx hr
    have z := root_alone w (by rw [e2]; exact hc') t.current w.here
    apply hne
    rw [z, ← hr, e]
theorem filter_ne_erase {l : List Nat} (h : l.Nodup) (n : Nat) : l.filter (fun m => m != n) = l.erase n := by
  rw [h.erase_eq_filter]
theorem Tr.WF.delLeaf (w : t.WF B) (hf : t.find n = some x) (hp : x.parent = some p) (hc : x.children = []) (hne : n ≠ t.current) : (t.delLeaf n).WF B := by
  have hx := find_mem' hf
  have hn := find_num' hf
  have gx := get_find hf
  have en : (t.delLeaf n).nodes = (t.nodes.filter fun y => y.number != n).map fun y => if y.number = p then { y with children := y.children.erase n } else y := by
    unfold Tr.delLeaf
    rw [gx, hp]
    rfl
  have ec : (t.delLeaf n).current = t.current := rfl
  have ex : (t.delLeaf n).next = t.next := rfl
  -- a node of the smaller tree
  have mem : ∀ z, z ∈ (t.delLeaf n).nodes → ∃ y, y ∈ t.nodes ∧ y.number ≠ n ∧ z = (if y.number = p then { y with children := y.children.erase n } else y) := by
    intro z hz
    rw [en] at hz
    obtain ⟨y, hy, e⟩ := List.mem_map.mp hz
    obtain ⟨h1, h2⟩ := List.mem_filter.mp hy
    exact ⟨y, h1, by simpa using h2, e.symm⟩
  have back : ∀ y, y ∈ t.nodes → y.number ≠ n → (if y.number = p then { y with children := y.children.erase n } else y) ∈ (t.delLeaf n).nodes := by
    intro y hy h
    rw [en]
    exact List.mem_map.mpr ⟨y, List.mem_filter.mpr ⟨hy, by simpa using h⟩, rfl⟩
  have same : ∀ y : Nd, (if y.number = p then { y with children := y.children.erase n } else y).number = y.number ∧ (if y.number = p then { y with children := y.children.erase n } else y).parent = y.parent ∧
      (if y.number = p then { y with children := y.children.erase n } else y).changes = y.changes ∧ (if y.number = p then { y with children := y.children.erase n } else y).text = y.text ∧ (if y.number = p then { y with children := y.children.erase n } else y).kept = y.kept := by
    intro y
    split <;> exact ⟨rfl, rfl, rfl, rfl, rfl⟩
  have nochild : ∀ y, y ∈ t.nodes → y.parent ≠ some n := fun y hy => by
    have := no_child w hx hc hy
    rw [hn] at this
    exact this
  have nums : (t.delLeaf n).nodes.map (fun z => z.number) = (t.nodes.filter fun y => y.number != n).map fun y => y.number := by
    rw [en, List.map_map]
    apply List.map_congr_left
    intro y _
    exact (same y).1
  have kidsOf : ∀ m, ((t.delLeaf n).nodes.filter fun z => z.parent == some m).map (fun z => z.number) = ((t.nodes.filter fun y => y.parent == some m).map fun y => y.number).filter fun k => k != n := by
    intro m
    rw [en, List.filter_map, List.map_map, List.filter_map, List.filter_filter, List.filter_filter]
    have e1 : ((fun y : Nd => y.number) ∘ fun y => if y.number = p then { y with children := y.children.erase n } else y) = fun y => y.number := funext fun y => (same y).1
    rw [e1]
    congr 1
    apply List.filter_congr
    intro y _
    show ((if y.number = p then { y with children := y.children.erase n } else y).parent == some m && y.number != n) = ((y.number != n) && (y.parent == some m))
    rw [(same y).2.1, Bool.and_comm]
  refine ⟨?_, ?_, ?_, ?_, ?_, ?_, ?_, ?_, ?_, ?_, ?_⟩
  · rw [nums]
    exact List.Pairwise.sublist (List.Sublist.map _ List.filter_sublist) w.sorted
  · intro z hz
    obtain ⟨y, h1, h2, rfl⟩ := mem z hz
    rw [(same y).1, ex]
    exact w.below y h1
  · rw [ex]
    exact w.next
  · intro z hz q e
    obtain ⟨y, h1, h2, rfl⟩ := mem z hz
    rw [(same y).2.1] at e
    obtain ⟨h3, u, hu, eu⟩ := w.par y h1 q e
    rw [(same y).1]
    refine ⟨h3, _, back u hu ?_, ?_⟩
    · intro z
      rw [eu] at z
      rw [z] at e
      exact nochild y h1 e
    · rw [(same u).1]
      exact eu
  · intro z hz
    obtain ⟨y, h1, h2, rfl⟩ := mem z hz
    rw [(same y).1, kidsOf, ← w.kids y h1]
    have nd : y.children.Nodup := (kids_sorted w h1).imp fun h => Nat.ne_of_lt h
    rw [filter_ne_erase nd]
    split
    · rfl
    · rename_i c
      symm
      apply List.erase_of_not_mem
      intro hm
      obtain ⟨u, hu, eu, pu⟩ := (kids_mem w h1).mp hm
      have : u = x := nums_inj w.sorted hu hx (eu.trans hn.symm)
      rw [this, hp] at pu
      exact c (Option.some.inj pu).symm
  · obtain ⟨y, hy, e⟩ := w.cur
    refine ⟨_, back y hy (by rw [e]; exact Ne.symm hne), ?_⟩
    rw [(same y).1, ec]
    exact e
  · obtain ⟨r0, r, e, h1, h2, h3⟩ := w.root
    have hr0 : r0 ∈ t.nodes := by rw [e]; exact List.mem_cons_self
    have hr0n : r0.number ≠ n := by
      intro z
      have : r0 = x := nums_inj w.sorted hr0 hx (z.trans hn.symm)
      rw [this, hp] at h1
      cases h1
    refine ⟨_, _, (by rw [en, e, List.filter_cons_of_pos (by simpa using hr0n), List.map_cons]), ?_, ?_, fun z hz => ?_⟩
    · rw [(same r0).2.1]
      exact h1
    · rw [(same r0).2.2.1]
      exact h2
    · obtain ⟨y, hy, rfl⟩ := List.mem_map.mp hz
      rw [(same y).2.1, (same y).2.2.1]
      exact h3 y (List.mem_filter.mp hy).1
  · intro z hz z2 hz2 e
    obtain ⟨y, h1, h2, rfl⟩ := mem z hz
    obtain ⟨y2, g1, g2, rfl⟩ := mem z2 hz2
    rw [(same y).2.1, (same y2).1] at e
    rw [(same y).2.2.2.1, (same y).2.2.1, (same y2).2.2.2.1]
    exact w.text y h1 y2 g1 e
  · intro z hz
    obtain ⟨y, h1, h2, rfl⟩ := mem z hz
    rw [(same y).2.2.2.1]
    exact w.short y h1
  · intro z hz
    obtain ⟨y, h1, h2, rfl⟩ := mem z hz
    rw [(same y).2.2.1]
    exact w.few y h1
  · intro z hz
    obtain ⟨y, h1, h2, rfl⟩ := mem z hz
    rw [(same y).2.2.2.2]
    exact w.flag y h1
theorem delLeaf_len (w : t.WF B) (hf : t.find n = some x) : (t.delLeaf n).nodes.length + 1 = t.nodes.length := by
  have hx := find_mem' hf
  have hn := find_num' hf
  have : (t.delLeaf n).nodes.length = (t.nodes.filter fun y => y.number != n).length := by
    show ((t.nodes.filter fun y => y.number != n).map _).length = _
    rw [List.length_map]
  rw [this]
  have nd : (t.nodes.map fun y => y.number).Nodup := w.sorted.imp fun h => Nat.ne_of_lt h
  have e1 : (t.nodes.filter fun y => y.number != n).length = ((t.nodes.map fun y => y.number).erase n).length := by
    rw [nd.erase_eq_filter, List.filter_map, List.length_map]
    rfl
  have hm : n ∈ t.nodes.map fun y => y.number := List.mem_map.mpr ⟨x, hx, hn⟩
  have hpos := List.length_pos_of_mem hm
  rw [e1, List.length_erase_of_mem hm, List.length_map]
  rw [List.length_map] at hpos
  omega
/-- the root and its only child -/
theorem rootCanGo_some (w : t.WF B) (h : t.rootCanGo = true) : ∃ r0 y0 r c, t.nodes = r0 :: y0 :: r ∧ r0.number = t.root ∧ y0.number = c ∧ (t.get t.root).children = [c] ∧ y0.parent = some t.root ∧ t.root ≠ t.current ∧ (t.get t.root).kept = 0 ∧ t.get t.root = r0 ∧ r0.parent = none := by
  unfold Tr.rootCanGo Tr.canGo at h
  rw [Bool.and_eq_true, Bool.and_eq_true] at h
  obtain ⟨⟨a1, a2⟩, a3⟩ := h
  obtain ⟨h1, h2, h3, h4⟩ := w.rootNode
  obtain ⟨r0, r, e, g1, g2, g3⟩ := w.root
  have er : t.root = r0.number := by
    unfold Tr.root
    rw [e]
    rfl
  have hr0 : r0 ∈ t.nodes := by rw [e]; exact List.mem_cons_self
  have gr : t.get t.root = r0 := get_of w hr0 er.symm
  obtain ⟨c, hc⟩ : ∃ c, (t.get t.root).children = [c] := by
    have := beq_iff_eq.mp a3
    match z : (t.get t.root).children, this with
    | [c], _ => exact ⟨c, rfl⟩
  cases r with
  | nil =>
    exfalso
    have hm : c ∈ (t.get t.root).children := by rw [hc]; exact List.mem_singleton.mpr rfl
    obtain ⟨u, hu, eu, pu⟩ := (kids_mem w (get_mem h1)).mp hm
    rw [e] at hu
    rw [List.mem_singleton.mp hu, g1] at pu
    cases pu
  | cons y0 r =>
    have hy0 : y0 ∈ t.nodes := by rw [e]; exact List.mem_cons_of_mem _ List.mem_cons_self
    have hp : y0.parent = some t.root := by
      cases q : y0.parent with
      | none => exact absurd q (g3 y0 List.mem_cons_self).1
      | some p =>
        obtain ⟨k1, u, hu, eu⟩ := w.par y0 hy0 p q
        have srt := w.sorted
        rw [e, List.map_cons, List.map_cons, List.pairwise_cons, List.pairwise_cons] at srt
        have : p = r0.number := by
          rw [e] at hu
          rcases List.mem_cons.mp hu with rfl | hu
          · exact eu.symm
          · rcases List.mem_cons.mp hu with rfl | hu
            · omega
            · have := srt.2.1 _ (List.mem_map.mpr ⟨u, hu, rfl⟩)
              omega
        rw [this, er]
    have hm : y0.number ∈ (t.get t.root).children := (kids_mem w (get_mem h1)).mpr ⟨y0, hy0, rfl, by rw [get_num h1]; exact hp⟩
    rw [hc] at hm
    exact ⟨r0, y0, r, c, e, er.symm, List.mem_singleton.mp hm, hc, hp, by simpa using a1, by simpa using a2, gr, g1⟩
theorem delRoot_nodes (w : t.WF B) {r0 y0 : Nd} {r : List Nd} {c : Nat} (e : t.nodes = r0 :: y0 :: r) (er : r0.number = t.root) (ec : y0.number = c) (hc : (t.get t.root).children = [c]) :
    t.delRoot.nodes = { y0 with parent := none, changes := [] } :: r := by
  have srt := w.sorted
  rw [e, List.map_cons, List.map_cons, List.pairwise_cons, List.pairwise_cons] at srt
  have ne1 : ∀ z ∈ y0 :: r, (z.number != t.root) = true := by
    intro z hz
    have := srt.1 z.number (by rw [← List.map_cons (f := fun x : Nd => x.number)]; exact List.mem_map.mpr ⟨z, hz, rfl⟩)
    simp
    omega
  have ne2 : ∀ z ∈ r, ¬ z.number = c := by
    intro z hz
    have := srt.2.1 z.number (List.mem_map.mpr ⟨z, hz, rfl⟩)
    omega
  show (t.nodes.filter fun x => x.number != t.root).map (fun x => if x.number = (t.get t.root).children.headD 0 then { x with parent := none, changes := [] } else x) = _
  rw [hc, e, List.filter_cons_of_neg (by simp [er]), List.filter_eq_self.mpr ne1, List.map_cons]
  show (if y0.number = c then _ else _) :: r.map (fun x => if x.number = c then _ else x) = _
  rw [if_pos ec]
  congr 1
  have : r.map (fun x : Nd => if x.number = c then { x with parent := none, changes := [] } else x) = r.map id := List.map_congr_left fun z hz => if_neg (ne2 z hz)
  rw [this, List.map_id]
theorem Tr.WF.delRoot (w : t.WF B) (h : t.rootCanGo = true) : t.delRoot.WF B := by
  obtain ⟨r0, y0, r, c, e, er, ec, hc, hp, hcur, hk, gr, hr0⟩ := rootCanGo_some w h
  have en := delRoot_nodes w e er ec hc
  have e1 : t.delRoot.current = t.current := rfl
  have e2 : t.delRoot.next = t.next := rfl
  have hy0 : y0 ∈ t.nodes := by rw [e]; exact List.mem_cons_of_mem _ List.mem_cons_self
  have hrm : ∀ z ∈ r, z ∈ t.nodes := fun z hz => by rw [e]; exact List.mem_cons_of_mem _ (List.mem_cons_of_mem _ hz)
  have srt := w.sorted
  rw [e, List.map_cons, List.map_cons, List.pairwise_cons, List.pairwise_cons] at srt
  obtain ⟨_, _, e', _, _, g3⟩ := w.root
  rw [e] at e'
  obtain ⟨rfl, rfl⟩ := List.cons.inj e'
  have rest : ∀ z ∈ r, z.parent ≠ none ∧ z.changes ≠ [] := fun z hz => g3 z (List.mem_cons_of_mem _ hz)
  -- only the child has the root for a parent
  have only : ∀ z ∈ r, z.parent ≠ some t.root := by
    intro z hz q
    have hr0m : r0 ∈ t.nodes := by rw [e]; exact List.mem_cons_self
    have : z.number ∈ r0.children := (kids_mem w hr0m).mpr ⟨z, hrm z hz, rfl, by rw [er]; exact q⟩
    rw [← gr, hc] at this
    have h1 := List.mem_singleton.mp this
    have h2 := srt.2.1 z.number (List.mem_map.mpr ⟨z, hz, rfl⟩)
    omega
  have kidsOf : ∀ m, m ≠ t.root → (({ y0 with parent := none, changes := [] } :: r : List Nd).filter fun z => z.parent == some m) = (t.nodes.filter fun z => z.parent == some m) := by
    intro m hm
    rw [e, List.filter_cons_of_neg (by simp), List.filter_cons_of_neg (by rw [hr0]; simp), List.filter_cons_of_neg (by rw [hp]; simpa using fun z => hm z.symm)]
  refine ⟨?_, ?_, ?_, ?_, ?_, ?_, ?_, ?_, ?_, ?_, ?_⟩
  · rw [en, List.map_cons, List.pairwise_cons]
    exact srt.2
  · intro z hz
    rw [en] at hz
    rw [e2]
    rcases List.mem_cons.mp hz with rfl | hz
    · exact w.below y0 hy0
    · exact w.below z (hrm z hz)
  · rw [e2]
    exact w.next
  · intro z hz q pq
    rw [en] at hz
    rcases List.mem_cons.mp hz with rfl | hz
    · cases pq
    · obtain ⟨k1, u, hu, eu⟩ := w.par z (hrm z hz) q pq
      refine ⟨k1, ?_⟩
      rw [en]
      rw [e] at hu
      rcases List.mem_cons.mp hu with rfl | hu
      · exfalso
        rw [← eu, er] at pq
        exact only z hz pq
      · rcases List.mem_cons.mp hu with rfl | hu
        · exact ⟨_, List.mem_cons_self, eu⟩
        · exact ⟨u, List.mem_cons_of_mem _ hu, eu⟩
  · intro z hz
    rw [en] at hz ⊢
    rcases List.mem_cons.mp hz with rfl | hz
    · have h1 := srt.1 y0.number List.mem_cons_self
      rw [kidsOf y0.number (by omega)]
      exact w.kids y0 hy0
    · have h1 := srt.1 z.number (List.mem_cons_of_mem _ (List.mem_map.mpr ⟨z, hz, rfl⟩))
      rw [kidsOf z.number (by omega)]
      exact w.kids z (hrm z hz)
  · obtain ⟨u, hu, eu⟩ := w.cur
    rw [en, e1]
    rw [e] at hu
    rcases List.mem_cons.mp hu with rfl | hu
    · exfalso
      apply hcur
      rw [← er, eu]
    · rcases List.mem_cons.mp hu with rfl | hu
      · exact ⟨_, List.mem_cons_self, eu⟩
      · exact ⟨u, List.mem_cons_of_mem _ hu, eu⟩
  · exact ⟨_, r, en, rfl, rfl, rest⟩
  · intro z hz z2 hz2 q
    rw [en] at hz hz2
    rcases List.mem_cons.mp hz with rfl | hz
    · cases q
    · rcases List.mem_cons.mp hz2 with rfl | hz2
      · exact w.text z (hrm z hz) y0 hy0 q
      · exact w.text z (hrm z hz) z2 (hrm z2 hz2) q
  · intro z hz
    rw [en] at hz
    rcases List.mem_cons.mp hz with rfl | hz
    · exact w.short y0 hy0
    · exact w.short z (hrm z hz)
  · intro z hz
    rw [en] at hz
    rcases List.mem_cons.mp hz with rfl | hz
    · exact ⟨Nat.zero_le _, fun c hc => by cases hc⟩
    · exact w.few z (hrm z hz)
  · intro z hz
    rw [en] at hz
    rcases List.mem_cons.mp hz with rfl | hz
    · exact w.flag y0 hy0
    · exact w.flag z (hrm z hz)
theorem delRoot_len (w : t.WF B) (h : t.rootCanGo = true) : t.delRoot.nodes.length + 1 = t.nodes.length := by
  obtain ⟨r0, y0, r, c, e, er, ec, hc, _⟩ := rootCanGo_some w h
  rw [delRoot_nodes w e er ec hc, e]
  rfl
/-! ### the two loops of forget -/
theorem leaves_fuel : ∀ (k : Nat) (t : Tr), t.WF B → t.nodes.length ≤ k → ∀ (f g n : Nat) (l : List Nat), t.nodes.length ≤ f → t.nodes.length ≤ g → lessLeaves f t n l = lessLeaves g t n l := by
  intro k
  induction k with
  | zero =>
    intro t w h f g n l _ _
    have : t.nodes.length = 0 := by omega
    have z : ∀ f, lessLeaves f t n l = (t, l) := by
      intro f
      cases f with
      | zero => rfl
      | succ f =>
        unfold lessLeaves
        rw [if_neg (by omega)]
    rw [z, z]
  | succ k ih =>
    intro t w h f g n l hf hg
    by_cases c : n < t.nodes.length
    · obtain ⟨f, rfl⟩ : ∃ f', f = f' + 1 := ⟨f - 1, by omega⟩
      obtain ⟨g, rfl⟩ : ∃ g', g = g' + 1 := ⟨g - 1, by omega⟩
      unfold lessLeaves
      rw [if_pos c, if_pos c]
      cases q : t.firstLeaf with
      | none => rfl
      | some x =>
        obtain ⟨y, p, h1, h2, h3, h4, h5⟩ := firstLeaf_some w q
        have hl := delLeaf_len w h1
        exact ih _ (w.delLeaf h1 h5 h2 h3) (by omega) _ _ _ _ (by omega) (by omega)
    · have z : ∀ f, lessLeaves f t n l = (t, l) := by
        intro f
        cases f with
        | zero => rfl
        | succ f =>
          unfold lessLeaves
          rw [if_neg c]
      rw [z, z]
theorem leaves_stop (f : Nat) {l : List Nat} (c : ¬ n < t.nodes.length ∨ t.firstLeaf = none) : lessLeaves f t n l = (t, l) := by
  cases f with
  | zero => rfl
  | succ f =>
    unfold lessLeaves
    by_cases c2 : n < t.nodes.length
    · rw [if_pos c2]
      rcases c with c | c
      · exact absurd c2 c
      · rw [c]
    · rw [if_neg c2]
theorem leaves_step (w : t.WF B) {m : Nat} {l : List Nat} (c : n < t.nodes.length) (q : t.firstLeaf = some m) :
    lessLeaves t.nodes.length t n l = lessLeaves (t.delLeaf m).nodes.length (t.delLeaf m) n (l ++ [m]) := by
  obtain ⟨y, p, h1, h2, h3, h4, h5⟩ := firstLeaf_some w q
  have hl := delLeaf_len w h1
  obtain ⟨f, e⟩ : ∃ f, t.nodes.length = f + 1 := ⟨t.nodes.length - 1, by omega⟩
  rw [e]
  conv => lhs; unfold lessLeaves
  rw [if_pos c, q]
  exact leaves_fuel _ _ (w.delLeaf h1 h5 h2 h3) (Nat.le_refl _) _ _ _ _ (by omega) (Nat.le_refl _)
theorem roots_fuel : ∀ (k : Nat) (t : Tr), t.WF B → t.nodes.length ≤ k → ∀ (f g n : Nat) (l : List Nat), t.nodes.length ≤ f → t.nodes.length ≤ g → lessRoots f t n l = lessRoots g t n l := by
  intro k
  induction k with
  | zero =>
    intro t w h f g n l _ _
    have : t.nodes.length = 0 := by omega
    have z : ∀ f, lessRoots f t n l = (t, l) := by
      intro f
      cases f with
      | zero => rfl
      | succ f =>
        unfold lessRoots
        rw [if_neg (by omega)]
    rw [z, z]
  | succ k ih =>
    intro t w h f g n l hf hg
    by_cases c : n < t.nodes.length ∧ t.rootCanGo = true
    · obtain ⟨f, rfl⟩ : ∃ f', f = f' + 1 := ⟨f - 1, by omega⟩
      obtain ⟨g, rfl⟩ : ∃ g', g = g' + 1 := ⟨g - 1, by omega⟩
      unfold lessRoots
      rw [if_pos c, if_pos c]
      have hl := delRoot_len w c.2
      exact ih _ (w.delRoot c.2) (by omega) _ _ _ _ (by omega) (by omega)
    · have z : ∀ f, lessRoots f t n l = (t, l) := by
        intro f
        cases f with
        | zero => rfl
        | succ f =>
          unfold lessRoots
          rw [if_neg c]
      rw [z, z]
theorem roots_stop (f : Nat) {l : List Nat} (c : ¬ (n < t.nodes.length ∧ t.rootCanGo = true)) : lessRoots f t n l = (t, l) := by
  cases f with
  | zero => rfl
  | succ f =>
    unfold lessRoots
    rw [if_neg c]
theorem roots_step (w : t.WF B) {l : List Nat} (c : n < t.nodes.length) (q : t.rootCanGo = true) :
    lessRoots t.nodes.length t n l = lessRoots t.delRoot.nodes.length t.delRoot n (l ++ [t.root]) := by
  have hl := delRoot_len w q
  obtain ⟨f, e⟩ : ∃ f, t.nodes.length = f + 1 := ⟨t.nodes.length - 1, by omega⟩
  rw [e]
  conv => lhs; unfold lessRoots
  rw [if_pos ⟨c, q⟩]
  exact roots_fuel _ _ (w.delRoot q) (Nat.le_refl _) _ _ _ _ (by omega) (Nat.le_refl _)
theorem leaves_len : ∀ (f : Nat) {t : Tr} {l : List Nat}, t.WF B → (lessLeaves f t n l).2.length + (lessLeaves f t n l).1.nodes.length = l.length + t.nodes.length ∧ (lessLeaves f t n l).1.WF B
  | 0, _, _, w => ⟨rfl, w⟩
  | f + 1, t, l, w => by
    unfold lessLeaves
    split
    · cases q : t.firstLeaf with
      | none => exact ⟨rfl, w⟩
      | some x =>
        obtain ⟨y, p, h1, h2, h3, h4, h5⟩ := firstLeaf_some w q
        have hl := delLeaf_len w h1
        obtain ⟨a, b⟩ := leaves_len f (t := t.delLeaf x) (l := l ++ [x]) (w.delLeaf h1 h5 h2 h3)
        refine ⟨?_, b⟩
        show (lessLeaves f (t.delLeaf x) n (l ++ [x])).2.length + (lessLeaves f (t.delLeaf x) n (l ++ [x])).1.nodes.length = _
        rw [a, List.length_append]
        show l.length + 1 + _ = _
        omega
    · exact ⟨rfl, w⟩
theorem roots_len : ∀ (f : Nat) {t : Tr} {l : List Nat}, t.WF B → (lessRoots f t n l).2.length + (lessRoots f t n l).1.nodes.length = l.length + t.nodes.length ∧ (lessRoots f t n l).1.WF B
  | 0, _, _, w => ⟨rfl, w⟩
  | f + 1, t, l, w => by
    unfold lessRoots
    split
    · rename_i c
      have hl := delRoot_len w c.2
      obtain ⟨a, b⟩ := roots_len f (t := t.delRoot) (l := l ++ [t.root]) (w.delRoot c.2)
      refine ⟨?_, b⟩
      rw [a, List.length_append]
      show l.length + 1 + _ = _
      omega
    · exact ⟨rfl, w⟩
theorem Tr.WF.forget (w : t.WF B) (n : Nat) : (t.forget n).1.WF B := (roots_len _ (leaves_len _ w).2).2
theorem forget_len (w : t.WF B) (n : Nat) : (t.forget n).2.length ≤ t.nodes.length := by
  have h1 := leaves_len (n := n) t.nodes.length (l := []) w
  have h2 := roots_len (n := n) (lessLeaves t.nodes.length t n []).1.nodes.length (l := (lessLeaves t.nodes.length t n []).2) h1.2
  have e : t.forget n = lessRoots (lessLeaves t.nodes.length t n []).1.nodes.length (lessLeaves t.nodes.length t n []).1 n (lessLeaves t.nodes.length t n []).2 := rfl
  rw [e]
  have h3 := h1.1
  have h4 := h2.1
  rw [List.length_nil] at h3
  omega
end
end Mir
namespace Mir
open Ue03 (Change)
section
variable {B : Nat} {t : Tr} {n m : Nat} {x y : Nd}
theorem mod_find {f : Nd → Nd} (hf : ∀ x, (f x).number = x.number) : (t.mod n f).find m = (t.find m).map fun x => if x.number = n then f x else x := by
  unfold Tr.mod Tr.find
  dsimp only
  rw [List.find?_map]
  congr 1
  have e : ((fun x : Nd => x.number == m) ∘ fun x => if x.number = n then f x else x) = fun x => x.number == m := by
    funext x
    show ((if x.number = n then f x else x).number == m) = (x.number == m)
    split
    · rw [hf]
    · rfl
  rw [e]
theorem see_find {b : Nat} : (t.see n b).find m = (t.find m).map fun x => if x.number = n then { x with visited := some b } else x := mod_find fun _ => rfl
theorem sees_find (l : List (Nat × Nat)) : ∀ {t : Tr}, ((t.sees l).find m).isSome = (t.find m).isSome ∧ ((t.sees l).get m).text = (t.get m).text ∧ (t.sees l).current = t.current ∧ (t.sees l).next = t.next := by
  induction l with
  | nil => intro t; exact ⟨rfl, rfl, rfl, rfl⟩
  | cons p r ih =>
    intro t
    have h := ih (t := t.see p.1 p.2)
    have e : t.sees (p :: r) = (t.see p.1 p.2).sees r := rfl
    rw [e]
    refine ⟨?_, ?_, h.2.2.1, h.2.2.2⟩
    · rw [h.1, see_find, Option.isSome_map]
    · rw [h.2.1]
      unfold Tr.get
      rw [see_find]
      cases t.find m with
      | none => rfl
      | some x =>
        show (if x.number = p.1 then ({ x with visited := some p.2 } : Nd) else x).text = x.text
        split <;> rfl
theorem visit_find : ((t.visit n).find m).isSome = (t.find m).isSome ∧ ((t.visit n).get m).text = (t.get m).text := by
  have h := sees_find (m := m) ((t.way n).zip ((t.way n).drop 1)) (t := t)
  exact ⟨h.1, h.2.1⟩
theorem last_mem : ∀ {l : List Nat}, l ≠ [] → l.getLastD 0 ∈ l
  | [], h => absurd rfl h
  | [a], _ => List.mem_singleton.mpr rfl
  | a :: b :: r, _ => by
    have h := last_mem (l := b :: r) (List.cons_ne_nil _ _)
    have e : (a :: b :: r).getLastD 0 = (b :: r).getLastD 0 := rfl
    rw [e]
    exact List.mem_cons_of_mem _ h
theorem liked_mem (h : x.children ≠ []) : x.liked ∈ x.children := by
  unfold Nd.liked
  cases x.visited with
  | none => exact last_mem h
  | some v =>
    dsimp only
    split
    · assumption
    · exact last_mem h
theorem see_get {b : Nat} : ((t.see n b).get m).text = (t.get m).text ∧ ((t.see n b).find m).isSome = (t.find m).isSome := by
  refine ⟨?_, by rw [see_find, Option.isSome_map]⟩
  unfold Tr.get
  rw [see_find]
  cases t.find m with
  | none => rfl
  | some x =>
    show (if x.number = n then ({ x with visited := some b } : Nd) else x).text = x.text
    split <;> rfl
theorem Se.WF.text_short {s : Se} (w : s.WF B) : s.text.length ≤ 300 := by
  unfold Se.text
  cases q : s.group with
  | none => exact w.tree.short _ (get_mem w.tree.here)
  | some g => exact (w.grp g q).1
end
end Mir
/-! ### how the mirror's data lies in the heap -/
namespace UB
open PySem PySem.Spec PyProof.Rows L2
open Ue03 (Change)
open Mir
/-- what an address that may still be changed is for -/
inductive Role | se | tr | di | st (n : Nat) | ch (n : Nat) | gr | gc | lo
  deriving DecidableEq
abbrev Rho := Addr → Option Role
def vn (n : Nat) : V := .int (n : Int)
def vo : Option Nat → V
  | none => .non
  | some n => vn n
def nl (l : List Nat) : List V := l.map vn
theorem nl_len (l : List Nat) : (nl l).length = l.length := List.length_map _
theorem nl_ints (l : List Nat) : nl l = (l.map fun (n : Nat) => (n : Int)).map V.int := by
  unfold nl vn
  rw [List.map_map]
  rfl
theorem nl_app (l m : List Nat) : nl (l ++ m) = nl l ++ nl m := List.map_append
/-- the addresses of the four classes of ours that are made -/
structure Cs where
  S : Addr
  T : Addr
  G : Addr
  E : Addr
def stF (p : V) (t : Nat) (ca ta : Addr) (k : Nat) (ha : Addr) (v : V) : List (Str × V) :=
  [("parent", p), ("time", vn t), ("changes", .ref ca), ("text", .ref ta), ("kept", vn k), ("children", .ref ha), ("visited", v)]
def trF (d : Addr) (c n : Nat) : List (Str × V) := [("states", .ref d), ("current", vn c), ("next_number", vn n)]
def grF (ca ta : Addr) : List (Str × V) := [("changes", .ref ca), ("text", .ref ta)]
def seF (t : Addr) (c : Nat) (g : V) : List (Str × V) := [("tree", .ref t), ("clock", vn c), ("group", g)]
theorem lk_here {k : Str} {v : V} {r : List (Str × V)} : List.lookup k ((k, v) :: r) = some v := by
  have e : (k == k) = true := beq_self_eq_true k
  simp only [List.lookup, e]
theorem lk_past {k g : Str} {v : V} {r : List (Str × V)} (h : (k == g) = false) : List.lookup k ((g, v) :: r) = List.lookup k r := by
  simp only [List.lookup, h]
theorem put_here {f : Str} {v x : V} {r : List (Str × V)} : putF f v ((f, x) :: r) = (f, v) :: r := if_pos rfl
theorem put_past {f g : Str} {v x : V} {r : List (Str × V)} (h : ¬ g = f) : putF f v ((g, x) :: r) = (g, x) :: putF f v r := if_neg h
section
variable {p v y : V} {t k c n : Nat} {ca ta ha d : Addr} {g : V}
theorem st_parent : (stF p t ca ta k ha v).lookup ("parent" : Str) = some p := lk_here
theorem st_time : (stF p t ca ta k ha v).lookup ("time" : Str) = some (vn t) := (lk_past (by decide +kernel)).trans lk_here
theorem st_changes : (stF p t ca ta k ha v).lookup ("changes" : Str) = some (.ref ca) := (lk_past (by decide +kernel)).trans ((lk_past (by decide +kernel)).trans lk_here)
theorem st_text : (stF p t ca ta k ha v).lookup ("text" : Str) = some (.ref ta) := (lk_past (by decide +kernel)).trans ((lk_past (by decide +kernel)).trans ((lk_past (by decide +kernel)).trans lk_here))
theorem st_kept : (stF p t ca ta k ha v).lookup ("kept" : Str) = some (vn k) := (lk_past (by decide +kernel)).trans ((lk_past (by decide +kernel)).trans ((lk_past (by decide +kernel)).trans ((lk_past (by decide +kernel)).trans lk_here)))
theorem st_children : (stF p t ca ta k ha v).lookup ("children" : Str) = some (.ref ha) :=
  (lk_past (by decide +kernel)).trans ((lk_past (by decide +kernel)).trans ((lk_past (by decide +kernel)).trans ((lk_past (by decide +kernel)).trans ((lk_past (by decide +kernel)).trans lk_here))))
theorem st_visited : (stF p t ca ta k ha v).lookup ("visited" : Str) = some v :=
  (lk_past (by decide +kernel)).trans ((lk_past (by decide +kernel)).trans ((lk_past (by decide +kernel)).trans ((lk_past (by decide +kernel)).trans ((lk_past (by decide +kernel)).trans ((lk_past (by decide +kernel)).trans lk_here)))))
theorem st_put_parent : putF "parent" y (stF p t ca ta k ha v) = stF y t ca ta k ha v := put_here
theorem st_put_changes : putF "changes" (.ref d) (stF p t ca ta k ha v) = stF p t d ta k ha v := (put_past (by decide +kernel)).trans (congrArg _ ((put_past (by decide +kernel)).trans (congrArg _ put_here)))
theorem st_put_kept : putF "kept" (vn c) (stF p t ca ta k ha v) = stF p t ca ta c ha v :=
  (put_past (by decide +kernel)).trans (congrArg _ ((put_past (by decide +kernel)).trans (congrArg _ ((put_past (by decide +kernel)).trans (congrArg _ ((put_past (by decide +kernel)).trans (congrArg _ put_here)))))))
theorem st_put_visited : putF "visited" y (stF p t ca ta k ha v) = stF p t ca ta k ha y :=
  (put_past (by decide +kernel)).trans (congrArg _ ((put_past (by decide +kernel)).trans (congrArg _ ((put_past (by decide +kernel)).trans (congrArg _ ((put_past (by decide +kernel)).trans (congrArg _ ((put_past (by decide +kernel)).trans (congrArg _ ((put_past (by decide +kernel)).trans (congrArg _ put_here)))))))))))
theorem tr_states : (trF d c n).lookup ("states" : Str) = some (.ref d) := lk_here
theorem tr_current : (trF d c n).lookup ("current" : Str) = some (vn c) := (lk_past (by decide +kernel)).trans lk_here
theorem tr_next : (trF d c n).lookup ("next_number" : Str) = some (vn n) := (lk_past (by decide +kernel)).trans ((lk_past (by decide +kernel)).trans lk_here)
theorem tr_put_current : putF "current" (vn k) (trF d c n) = trF d k n := (put_past (by decide +kernel)).trans (congrArg _ put_here)
theorem tr_put_next : putF "next_number" (vn k) (trF d c n) = trF d c k := (put_past (by decide +kernel)).trans (congrArg _ ((put_past (by decide +kernel)).trans (congrArg _ put_here)))
theorem gr_changes : (grF ca ta).lookup ("changes" : Str) = some (.ref ca) := lk_here
theorem gr_text : (grF ca ta).lookup ("text" : Str) = some (.ref ta) := (lk_past (by decide +kernel)).trans lk_here
theorem gr_put_text : putF "text" (.ref d) (grF ca ta) = grF ca d := (put_past (by decide +kernel)).trans (congrArg _ put_here)
theorem se_tree : (seF ta c g).lookup ("tree" : Str) = some (.ref ta) := lk_here
theorem se_clock : (seF ta c g).lookup ("clock" : Str) = some (vn c) := (lk_past (by decide +kernel)).trans lk_here
theorem se_group : (seF ta c g).lookup ("group" : Str) = some g := (lk_past (by decide +kernel)).trans ((lk_past (by decide +kernel)).trans lk_here)
theorem se_put_tree : putF "tree" (.ref d) (seF ta c g) = seF d c g := put_here
theorem se_put_clock : putF "clock" (vn k) (seF ta c g) = seF ta k g := (put_past (by decide +kernel)).trans (congrArg _ put_here)
theorem se_put_group : putF "group" y (seF ta c g) = seF ta c y := (put_past (by decide +kernel)).trans (congrArg _ ((put_past (by decide +kernel)).trans (congrArg _ put_here)))
end
/-- a name that is none of the attributes -/
theorem st_no {p v : V} {t k : Nat} {ca ta ha : Addr} {m : Str} (h : ("parent" : Str) ≠ m ∧ ("time" : Str) ≠ m ∧ ("changes" : Str) ≠ m ∧ ("text" : Str) ≠ m ∧ ("kept" : Str) ≠ m ∧ ("children" : Str) ≠ m ∧ ("visited" : Str) ≠ m) :
    (stF p t ca ta k ha v).lookup m = none := by
  obtain ⟨a, b, c, d, e, f, g⟩ := h
  have z : ∀ {x : Str}, x ≠ m → (m == x) = false := fun h => beq_false_of_ne (Ne.symm h)
  unfold stF
  rw [lk_past (z a), lk_past (z b), lk_past (z c), lk_past (z d), lk_past (z e), lk_past (z f), lk_past (z g)]
  rfl
theorem tr_no {d : Addr} {c n : Nat} {m : Str} (h : ("states" : Str) ≠ m ∧ ("current" : Str) ≠ m ∧ ("next_number" : Str) ≠ m) : (trF d c n).lookup m = none := by
  obtain ⟨a, b, c⟩ := h
  have z : ∀ {x : Str}, x ≠ m → (m == x) = false := fun h => beq_false_of_ne (Ne.symm h)
  unfold trF
  rw [lk_past (z a), lk_past (z b), lk_past (z c)]
  rfl
theorem gr_no {ca ta : Addr} {m : Str} (h : ("changes" : Str) ≠ m ∧ ("text" : Str) ≠ m) : (grF ca ta).lookup m = none := by
  obtain ⟨a, b⟩ := h
  have z : ∀ {x : Str}, x ≠ m → (m == x) = false := fun h => beq_false_of_ne (Ne.symm h)
  unfold grF
  rw [lk_past (z a), lk_past (z b)]
  rfl
theorem se_no {d : Addr} {c : Nat} {g : V} {m : Str} (h : ("tree" : Str) ≠ m ∧ ("clock" : Str) ≠ m ∧ ("group" : Str) ≠ m) : (seF d c g).lookup m = none := by
  obtain ⟨a, b, c⟩ := h
  have z : ∀ {x : Str}, x ≠ m → (m == x) = false := fun h => beq_false_of_ne (Ne.symm h)
  unfold seF
  rw [lk_past (z a), lk_past (z b), lk_past (z c)]
  rfl

/-! the places -/
/-- a list of numbers that nobody changes -/
def Lst (ρ : Rho) (H : Hp) (a : Addr) (l : List Nat) : Prop := ρ a = none ∧ H a = some (.lst (nl l))
/-- a change -/
def ChgA (ρ : Rho) (H : Hp) (a : Addr) (c : Change) : Prop := ∃ ia, ρ a = none ∧ H a = some (.tup [vn c.at_, vn c.out, .ref ia]) ∧ Lst ρ H ia c.in_
def ChgsA (ρ : Rho) (H : Hp) : List Addr → List Change → Prop
  | [], [] => True
  | a :: as, c :: cs => ChgA ρ H a c ∧ ChgsA ρ H as cs
  | _, _ => False
/-- a state at a, all but its list of changes -/
structure StA (C : Cs) (ρ : Rho) (H : Hp) (x : Nd) (a : Addr) : Prop where
  role : ρ a = some (.st x.number)
  ex : ∃ dx ca ta ha as, H a = some (.ins C.S dx (stF (vo x.parent) x.time ca ta x.kept ha (vo x.visited))) ∧ (ρ ca = none ∧ H ca = some (.lst (as.map V.ref)) ∧ ChgsA ρ H as x.changes) ∧ Lst ρ H ta x.text ∧
    ρ ha = some (.ch x.number) ∧ H ha = some (.lst (nl x.children))
def kvOf (p : Addr × Nd) : Key × V := (Sum.inl (p.2.number : Int), V.ref p.1)
structure TrA (C : Cs) (ρ : Rho) (H : Hp) (t : Tr) (a : Addr) (d : Addr) (L : List (Addr × Nd)) : Prop where
  role : ρ a = some .tr
  obj : ∃ dx, H a = some (.ins C.T dx (trF d t.current t.next))
  drole : ρ d = some .di
  dict : H d = some (.dK (L.map kvOf))
  nodes : L.map (·.2) = t.nodes
  at_ : ∀ p ∈ L, StA C ρ H p.2 p.1
structure GrA (C : Cs) (ρ : Rho) (H : Hp) (g : List Change × List Nat) (a : Addr) : Prop where
  role : ρ a = some .gr
  ex : ∃ dx ca ta as, H a = some (.ins C.G dx (grF ca ta)) ∧ ρ ca = some .gc ∧ H ca = some (.lst (as.map V.ref)) ∧ ChgsA ρ H as g.1 ∧ Lst ρ H ta g.2
def GvA (C : Cs) (ρ : Rho) (H : Hp) (v : V) : Option (List Change × List Nat) → Prop
  | none => v = .non
  | some g => ∃ a, v = .ref a ∧ GrA C ρ H g a
structure SeA (C : Cs) (ρ : Rho) (H : Hp) (s : Se) (a : Addr) : Prop where
  role : ρ a = some .se
  ex : ∃ dx ta d L gv, H a = some (.ins C.E dx (seF ta s.clock gv)) ∧ TrA C ρ H s.tree ta d L ∧ GvA C ρ H gv s.group
/-- what has a part to play is tracked -/
def Own (ρ : Rho) (H : Hp) : Prop := ∀ a r, ρ a = some r → ∃ o, H a = some o
theorem Own.free {ρ : Rho} {H : Hp} (o : Own ρ H) {a : Addr} (h : H a = none) : ρ a = none := by
  cases e : ρ a with
  | none => rfl
  | some r =>
    obtain ⟨u, hu⟩ := o a r e
    rw [h] at hu
    cases hu
/-- from one heap to a later one: what has none of the parts R stands, with the part it had -/
def Fr (R : Role → Prop) (ρ : Rho) (H : Hp) (ρ' : Rho) (H' : Hp) : Prop := ∀ b o, H b = some o → (∀ r, ρ b = some r → ¬ R r) → H' b = some o ∧ ρ' b = ρ b
abbrev All : Role → Prop := fun r => r ≠ .lo
def inTree : Role → Prop
  | .tr | .di | .st _ | .ch _ => True
  | _ => False
section
variable {C : Cs} {R R' : Role → Prop} {ρ ρ' ρ'' : Rho} {H H' H'' : Hp} {a : Addr}
theorem Fr.refl : Fr R ρ H ρ H := fun _ _ h _ => ⟨h, rfl⟩
theorem Fr.of_same (h : Same H H') : Fr R ρ H ρ H' := fun b o e _ => ⟨h b o e, rfl⟩
theorem Fr.trans (x : Fr R ρ H ρ' H') (y : Fr R ρ' H' ρ'' H'') : Fr R ρ H ρ'' H'' := fun b o e n => by
  obtain ⟨h1, r1⟩ := x b o e n
  obtain ⟨h2, r2⟩ := y b o h1 (by rw [r1]; exact n)
  exact ⟨h2, r2.trans r1⟩
theorem Fr.wide (x : Fr R ρ H ρ' H') (w : ∀ r, R r → R' r) : Fr R' ρ H ρ' H' := fun b o e n => x b o e fun r h z => n r h (w r z)
theorem Fr.all (x : Fr R ρ H ρ' H') (n : ¬ R .lo := by first | exact fun z => z | (intro z; cases z)) : Fr All ρ H ρ' H' := x.wide fun r h z => n (z ▸ h)
theorem Fr.keep (x : Fr R ρ H ρ' H') {b : Addr} {o : HO} (e : H b = some o) (n : ρ b = none) : H' b = some o ∧ ρ' b = none := by
  obtain ⟨h, r⟩ := x b o e (by rw [n]; intro r z; cases z)
  exact ⟨h, r.trans n⟩
theorem Lst.fr {l : List Nat} (h : Lst ρ H a l) (x : Fr R ρ H ρ' H') : Lst ρ' H' a l := by
  obtain ⟨h1, h2⟩ := x.keep h.2 h.1
  exact ⟨h2, h1⟩
theorem ChgA.fr {c : Change} (h : ChgA ρ H a c) (x : Fr R ρ H ρ' H') : ChgA ρ' H' a c := by
  obtain ⟨ia, r, e, l⟩ := h
  obtain ⟨h1, h2⟩ := x.keep e r
  exact ⟨ia, h2, h1, l.fr x⟩
theorem ChgsA.fr (x : Fr R ρ H ρ' H') : ∀ {as : List Addr} {cs : List Change}, ChgsA ρ H as cs → ChgsA ρ' H' as cs
  | [], [], _ => trivial
  | _ :: _, _ :: _, h => ⟨h.1.fr x, ChgsA.fr x h.2⟩
  | [], _ :: _, h => h.elim
  | _ :: _, [], h => h.elim
theorem ChgsA.len : ∀ {as : List Addr} {cs : List Change}, ChgsA ρ H as cs → as.length = cs.length
  | [], [], _ => rfl
  | _ :: _, _ :: _, h => congrArg (· + 1) (ChgsA.len h.2)
  | [], _ :: _, h => h.elim
  | _ :: _, [], h => h.elim
theorem ChgsA.at : ∀ {as : List Addr} {cs : List Change} {i : Nat} {b : Addr}, ChgsA ρ H as cs → as[i]? = some b → ∃ c, cs[i]? = some c ∧ ChgA ρ H b c
  | [], [], _, _, _, e => by simp at e
  | _ :: _, c :: _, 0, b, h, e => by
    have z := Option.some.inj e
    subst z
    exact ⟨c, rfl, h.1⟩
  | _ :: as, _ :: cs, i + 1, b, h, e => by
    obtain ⟨c, h1, h2⟩ := ChgsA.at (i := i) (b := b) h.2 (by simpa using e)
    exact ⟨c, by simpa using h1, h2⟩
  | [], _ :: _, _, _, h, _ => h.elim
  | _ :: _, [], _, _, h, _ => h.elim
theorem ChgsA.snoc {b : Addr} {c : Change} (hc : ChgA ρ H b c) : ∀ {as : List Addr} {cs : List Change}, ChgsA ρ H as cs → ChgsA ρ H (as ++ [b]) (cs ++ [c])
  | [], [], _ => ⟨hc, trivial⟩
  | _ :: _, _ :: _, h => ⟨h.1, ChgsA.snoc hc h.2⟩
  | [], _ :: _, h => h.elim
  | _ :: _, [], h => h.elim
theorem StA.fr {x : Nd} (h : StA C ρ H x a) (f : Fr R ρ H ρ' H') (n1 : ¬ R (.st x.number)) (n2 : ¬ R (.ch x.number)) : StA C ρ' H' x a := by
  obtain ⟨r, dx, ca, ta, ha, as, e, ⟨rc, ec, cs⟩, l, rh, eh⟩ := h
  obtain ⟨e', r'⟩ := f a _ e (by rw [r]; intro z hz; cases hz; exact n1)
  obtain ⟨ec', rc'⟩ := f.keep ec rc
  obtain ⟨eh', rh'⟩ := f ha _ eh (by rw [rh]; intro z hz; cases hz; exact n2)
  exact ⟨r'.trans r, dx, ca, ta, ha, as, e', ⟨rc', ec', cs.fr f⟩, l.fr f, rh'.trans rh, eh'⟩
theorem TrA.fr {t : Tr} {d : Addr} {L : List (Addr × Nd)} (h : TrA C ρ H t a d L) (f : Fr R ρ H ρ' H') (n : ∀ r, inTree r → ¬ R r) : TrA C ρ' H' t a d L := by
  obtain ⟨dx, e⟩ := h.obj
  obtain ⟨e', r'⟩ := f a _ e (by rw [h.role]; intro z hz; cases hz; exact n _ trivial)
  obtain ⟨ed, rd⟩ := f d _ h.dict (by rw [h.drole]; intro z hz; cases hz; exact n _ trivial)
  exact ⟨r'.trans h.role, ⟨dx, e'⟩, rd.trans h.drole, ed, h.nodes, fun p hp => (h.at_ p hp).fr f (n _ trivial) (n _ trivial)⟩
theorem GrA.fr {g : List Change × List Nat} (h : GrA C ρ H g a) (f : Fr R ρ H ρ' H') (n1 : ¬ R .gr) (n2 : ¬ R .gc) : GrA C ρ' H' g a := by
  obtain ⟨r, dx, ca, ta, as, e, rc, ec, cs, l⟩ := h
  obtain ⟨e', r'⟩ := f a _ e (by rw [r]; intro z hz; cases hz; exact n1)
  obtain ⟨ec', rc'⟩ := f ca _ ec (by rw [rc]; intro z hz; cases hz; exact n2)
  exact ⟨r'.trans r, dx, ca, ta, as, e', rc'.trans rc, ec', cs.fr f, l.fr f⟩
theorem GvA.fr {v : V} {g : Option (List Change × List Nat)} (h : GvA C ρ H v g) (f : Fr R ρ H ρ' H') (n1 : ¬ R .gr) (n2 : ¬ R .gc) : GvA C ρ' H' v g := by
  cases g with
  | none => exact h
  | some g =>
    obtain ⟨a, e, q⟩ := h
    exact ⟨a, e, q.fr f n1 n2⟩
theorem SeA.fr {s : Se} (h : SeA C ρ H s a) (f : Fr R ρ H ρ' H') (n : ∀ r, r ≠ .lo → ¬ R r) : SeA C ρ' H' s a := by
  obtain ⟨r, dx, ta, d, L, gv, e, t, g⟩ := h
  obtain ⟨e', r'⟩ := f a _ e (by rw [r]; intro z hz; cases hz; exact n _ (by decide))
  exact ⟨r'.trans r, dx, ta, d, L, gv, e', t.fr f (fun r h => n r (fun z => by subst z; exact h)), g.fr f (n _ (by decide)) (n _ (by decide))⟩
theorem none_R : ∀ r : Role, r ≠ .lo → ¬ (fun _ : Role => False) r := fun _ _ h => h
theorem Lst.same {l : List Nat} (h : Lst ρ H a l) (x : Same H H') : Lst ρ H' a l := h.fr (Fr.of_same (R := fun _ => False) x)
theorem ChgsA.same {as : List Addr} {cs : List Change} (h : ChgsA ρ H as cs) (x : Same H H') : ChgsA ρ H' as cs := h.fr (Fr.of_same (R := fun _ => False) x)
theorem StA.same {x : Nd} (h : StA C ρ H x a) (s : Same H H') : StA C ρ H' x a := h.fr (Fr.of_same (R := fun _ => False) s) (fun z => z) (fun z => z)
theorem TrA.same {t : Tr} {d : Addr} {L : List (Addr × Nd)} (h : TrA C ρ H t a d L) (s : Same H H') : TrA C ρ H' t a d L := h.fr (Fr.of_same (R := fun _ => False) s) (fun _ _ z => z)
theorem GvA.same {v : V} {g : Option (List Change × List Nat)} (h : GvA C ρ H v g) (s : Same H H') : GvA C ρ H' v g := h.fr (Fr.of_same (R := fun _ => False) s) (fun z => z) (fun z => z)
theorem SeA.same {s : Se} (h : SeA C ρ H s a) (x : Same H H') : SeA C ρ H' s a := h.fr (Fr.of_same (R := fun _ => False) x) none_R
theorem Own.same (h : Own ρ H) (s : Same H H') : Own ρ H' := fun a r e => by
  obtain ⟨o, q⟩ := h a r e
  exact ⟨o, s a o q⟩
/-- a new thing at p -/
theorem same_new {o : HO} (h : H a = none) : Same H (upd H a o) := fun b u e => by
  rw [upd_ne (ne_of_none e h)]
  exact e
/-- an address with a part is written -/
theorem Fr.upd {o : HO} {r : Role} (h : ρ a = some r) (hr : R r) : Fr R ρ H ρ (L2.upd H a o) := fun b u e n => by
  refine ⟨?_, rfl⟩
  rw [upd_ne fun z => by subst z; exact n r h hr]
  exact e
theorem Own.upd {o : HO} (h : Own ρ H) : Own ρ (L2.upd H a o) := fun b r e => by
  by_cases z : b = a
  · subst z
    exact ⟨_, upd_same⟩
  · rw [upd_ne z]
    exact h b r e
/-- a part is given to a new address -/
def give (ρ : Rho) (a : Addr) (r : Role) : Rho := fun b => if b = a then some r else ρ b
theorem give_same {r : Role} : give ρ a r a = some r := if_pos rfl
theorem give_ne {r : Role} {b : Addr} (h : b ≠ a) : give ρ a r b = ρ b := if_neg h
theorem Fr.give {r : Role} {o : HO} (h : H a = none) : Fr R ρ H (give ρ a r) (L2.upd H a o) := fun b u e _ => by
  have z := ne_of_none e h
  exact ⟨by rw [upd_ne z]; exact e, give_ne z⟩
theorem Own.give {r : Role} {o : HO} (h : Own ρ H) : Own (give ρ a r) (L2.upd H a o) := fun b q e => by
  by_cases z : b = a
  · subst z
    exact ⟨_, upd_same⟩
  · rw [upd_ne z]
    rw [give_ne z] at e
    exact h b q e
end
end UB
/-! ### short forms of the rules, for this program -/
namespace UB
open PySem PySem.Spec PyProof.Rows L2
theorem pe_imp {X : Cx} {e : Expr} {t u : TE} (h : PE X e t) (i : ∀ σ H Q, u σ H Q → t σ H Q) : PE X e u := ⟨fun pins s σ H Q I q => h.run pins s σ H Q I (i σ H Q q)⟩
/-- a method of the class at C keeps sp -/
structure MetX (P : Program) (w : World) (K : PySem.W.Frag) (mg : Str → Option Value) (base : Heap) (CX : CXT) (k : Nat) (C : Addr) (m : Str) (ps : List Str) (sp : Sp) : Prop where
  ex : ∃ f fd, Meth K C m f ∧ FnOk P w K mg base CX k f fd ps sp ∧ Binds K fd ps []
/-- a def of the top keeps sp -/
structure DefX (P : Program) (w : World) (K : PySem.W.Frag) (mg : Str → Option Value) (base : Heap) (CX : CXT) (k : Nat) (x : Str) (ps : List Str) (sp : Sp) : Prop where
  ex : ∃ f fd, mg x = some (.ref f) ∧ PySem.W.keepIn K (.ref f) = true ∧ FnOk P w K mg base CX k f fd ps sp ∧ Binds K fd ps []
/-- a class that makes its instances by an __init__ that keeps sp -/
structure MakX (P : Program) (w : World) (K : PySem.W.Frag) (mg : Str → Option Value) (base : Heap) (CX : CXT) (k : Nat) (x : Str) (C : Addr) (ps : List Str) (sp : Sp) : Prop where
  ex : ∃ f fd, Mk K C f ∧ mg x = some (.ref C) ∧ FnOk P w K mg base CX k f fd ps sp ∧ Binds K fd ps []
/-- o.m(..) -/
def tM (C : Addr) (m : Str) (sp : Sp) (E : XK) (ta : TE) (t : TA) : TE := fun σ H Q => ta σ H fun x H1 => ∃ a dx fs, x = .ref a ∧ H1 a = some (.ins C dx fs) ∧ fs.lookup m = none ∧ t σ H1 fun vs H2 => sp (x :: vs) H2 Q E
/-- f(..) -/
def tF (sp : Sp) (E : XK) (t : TA) : TE := fun σ H Q => t σ H fun vs H1 => sp vs H1 Q E
/-- C(..) -/
def tN (C : Addr) (sp : Sp) (E : XK) (t : TA) : TE := fun σ H Q => t σ H fun vs H1 => ∀ x dx, H1 x = none → H1 dx = none → dx ≠ x → sp (.ref x :: vs) (upd (upd H1 dx (.own x)) x (.ins C dx [])) (fun v H2 => v = .non ∧ Q (.ref x) H2) E
section
variable {X : Cx} {CX : CXT} {j k : Nat} {C : Addr} {m x : Str} {ps : List Str} {sp : Sp} {E : XK} {o e : Expr} {es : List Expr} {p pos apos : Pos} {ta : TE} {t : TA}
theorem pe_m {pl : Sem Bool} (M : MetX X.prog X.w X.K X.mg X.base CX k C m ps sp) (he : PE X o ta) (c : Cls X.K C) (hr : Room j X.A) (hk : k ≤ j) (hx : Passes CX X E) (ha : PA X (e :: es) t)
    (hst : starEach (e :: es) X.env = (false, eval e X.env) :: starEach es X.env := by rfl) (hpl : (backTo pos (starEach es X.env)).any (·.1) = false := by rfl)
    (ht : eval (.Call (.Attribute o m apos) (e :: es) [] pos) X.env = (do
      let ov ← eval o X.env
      standAt apos.atName
      let (f, first) ← holding [ov] (getMethod ov m pl)
      callWith pos f first (backTo pos (starEach (e :: es) X.env)) (backToKw pos (keywordEach [] X.env))) := by rfl) :
    PE X (.Call (.Attribute o m apos) (e :: es) [] pos) (tM C m sp E ta t) := by
  obtain ⟨f, fd, hm, F, b⟩ := M.ex
  have e1 : (fun (vs : List V) H2 Q => sp (V.ref 0 :: (vs ++ [])) H2 Q E) = fun vs H2 Q => sp (V.ref 0 :: vs) H2 Q E := by
    funext vs H2 Q
    rw [List.append_nil]
  refine pe_imp (pe_meth he c hm F (hr.mono hk) b .nil hx ha hst hpl ht) fun σ H Q q => ?_
  unfold tMeth
  have z : ∀ vs : List V, vs ++ [] = vs := List.append_nil
  simp only [z]
  exact q
theorem pe_m0 {pl : Sem Bool} (M : MetX X.prog X.w X.K X.mg X.base CX k C m ps sp) (he : PE X o ta) (c : Cls X.K C) (hr : Room j X.A) (hk : k ≤ j) (hx : Passes CX X E)
    (ht : eval (.Call (.Attribute o m apos) [] [] pos) X.env = (do
      let ov ← eval o X.env
      standAt apos.atName
      let (f, first) ← holding [ov] (getMethod ov m pl)
      callWith pos f first (backTo pos (starEach [] X.env)) (backToKw pos (keywordEach [] X.env))) := by rfl) :
    PE X (.Call (.Attribute o m apos) [] [] pos) (tM C m sp E ta tNil) := by
  obtain ⟨f, fd, hm, F, b⟩ := M.ex
  refine pe_imp (pe_meth0 he c hm F (hr.mono hk) b .nil hx ht) fun σ H Q q => ?_
  unfold tMeth
  have z : ∀ vs : List V, vs ++ [] = vs := List.append_nil
  simp only [z]
  exact q
theorem pe_f (D : DefX X.prog X.w X.K X.mg X.base CX k x ps sp) (hr : Room j X.A) (hk : k ≤ j) (hx : Passes CX X E) (ha : PA X (e :: es) t) (hg : Gl X x := by rfl) (hdb : (x == ("__debug__" : Str)) = false := by decide)
    (he : starEach (e :: es) X.env = (false, eval e X.env) :: starEach es X.env := by rfl) (hpl : (backTo pos (starEach es X.env)).any (·.1) = false := by rfl) :
    PE X (.Call (.Name x p) (e :: es) [] pos) (tF sp E t) := by
  obtain ⟨f, fd, hm, kp, F, b⟩ := D.ex
  refine pe_imp (pe_call F (hr.mono hk) hg hm kp b .nil hx ha hdb he hpl) fun σ H Q q => ?_
  unfold tCall
  have z : ∀ vs : List V, vs ++ [] = vs := List.append_nil
  simp only [z]
  exact q
theorem pe_n (M : MakX X.prog X.w X.K X.mg X.base CX k x C ps sp) (hr : Room j X.A) (hk : k + 1 ≤ j) (hx : Passes CX X E) (ha : PA X (e :: es) t) (hg : Gl X x := by rfl) (hdb : (x == ("__debug__" : Str)) = false := by decide)
    (he : starEach (e :: es) X.env = (false, eval e X.env) :: starEach es X.env := by rfl) (hpl : (backTo pos (starEach es X.env)).any (·.1) = false := by rfl) :
    PE X (.Call (.Name x p) (e :: es) [] pos) (tN C sp E t) := by
  obtain ⟨f, fd, mk, hm, F, b⟩ := M.ex
  refine pe_imp (pe_make mk F (hr.mono hk) hg hm b .nil hx ha hdb he hpl) fun σ H Q q => ?_
  unfold tMake
  have z : ∀ vs : List V, vs ++ [] = vs := List.append_nil
  simp only [z]
  exact q
theorem pe_n0 (M : MakX X.prog X.w X.K X.mg X.base CX k x C ps sp) (hr : Room j X.A) (hk : k + 1 ≤ j) (hx : Passes CX X E) (hg : Gl X x := by rfl) (hdb : (x == ("__debug__" : Str)) = false := by decide) :
    PE X (.Call (.Name x p) [] [] pos) (tN C sp E tNil) := by
  obtain ⟨f, fd, mk, hm, F, b⟩ := M.ex
  refine pe_imp (pe_make0 mk F (hr.mono hk) hg hm b .nil hx hdb) fun σ H Q q => ?_
  unfold tMake
  have z : ∀ vs : List V, vs ++ [] = vs := List.append_nil
  simp only [z]
  exact q
end
/-! errors -/
/-- what an except clause for the class at B and a look at the code want of an error's class -/
structure RefCls (K : PySem.W.Frag) (B C : Addr) : Prop where
  xf : XfC K C
  no : PySem.W.findIn K (.ref C) "code" = some none
  te : PySem.W.exmOne K (.ref C) (.ref B) = some true
def xdC (c : Int) : HO := .xd [("code", .int c)]
/-- refused: an error of some class under B that bears the code c; all that stood stands -/
def Rz (K : PySem.W.Frag) (B : Addr) (c : Int) (E : XK) (H : Hp) : Prop := ∀ (C d : Addr) (H' : Hp), RefCls K B C → Same H H' → H' d = some (xdC c) → E (.ref C) (some d) H'
theorem Rz.same {K : PySem.W.Frag} {B : Addr} {c : Int} {E : XK} {H H' : Hp} (h : Rz K B c E H) (s : Same H H') : Rz K B c E H' := fun C d H2 r s2 e => h C d H2 r (s.trans s2) e
def spErr (C : Addr) (c : Int) : Sp := fun vs H Q _ => ∃ a, vs = [.ref a] ∧ H a = some (exo a C none) ∧ ∀ dx, H dx = none → dx ≠ a → Q .non (upd (upd H dx (exd dx [("code", .int c)])) a (exo a C (some dx)))
structure RaiseC (P : Program) (w : World) (K : PySem.W.Frag) (mg : Str → Option Value) (base : Heap) (B : Addr) (x : Str) (c : Int) : Prop where
  ex : ∃ C fI fd, ErrC K C ∧ RefCls K B C ∧ mg x = some (.ref C) ∧ PySem.W.findIn K (.ref C) "__init__" = some (some (.ref fI)) ∧ PySem.W.typeIn K (.ref fI) = some (.type "function") ∧
    FnOk P w K mg base CX0 2 fI fd ["self"] (spErr C c) ∧ Binds K fd ["self"] []
def tRz (K : PySem.W.Frag) (B : Addr) (c : Int) (W : WX) : TS := fun _ σ H => ∀ (C d : Addr) (H' : Hp), RefCls K B C → Same H H' → H' d = some (xdC c) → W (.ref C) (some d) σ H'
theorem ps_rz {X : Cx} {x : Str} {c : Int} {B : Addr} {W : WX} {j : Nat} {p pos pos2 : Pos} (R : RaiseC X.prog X.w X.K X.mg X.base B x c) (hc : X.calm = true) (hr : Room j X.A) (hk : 3 ≤ j) (tk : Takes X W) (hg : Gl X x := by rfl) (hdb : (x == ("__debug__" : Str)) = false := by decide) :
    PS X (.Raise (some (.Call (.Name x p) [] [] pos)) none pos2) (tRz X.K B c W) := by
  obtain ⟨C, fI, fd, T, rc, hm, iC, tI, F, b⟩ := R.ex
  refine ⟨fun pins s σ H D I h => (ps_raise hc tk (pmk_err (pos := pos) (p := p) T iC tI F (hr.mono hk) b hg hm hdb)).run pins s σ H D I ?_⟩
  intro a ha
  refine ⟨a, rfl, upd_same, fun dx hdx hne => ⟨rfl, ?_⟩⟩
  have hda : upd H a (exo a C none) a = some (exo a C none) := upd_same
  have hdx' : H dx = none := by rw [upd_ne hne] at hdx; exact hdx
  refine ⟨dx, [("code", .int c)], upd_same, by rw [upd_ne hne, upd_same], hdx', ?_⟩
  refine h C dx _ rc (fun b o e => ?_) upd_same
  have h1 := ne_of_none e hdx'
  have h2 := ne_of_none e ha
  rw [upd_ne h1, del_ne h2, upd_ne h2, upd_ne h1, upd_ne h2]
  exact e
theorem passX {X : Cx} {E : XK} {W : WX} (tk : Takes X W) (hW : ∀ cls d σ H, E cls d H → W cls d σ H := by exact fun _ _ _ _ h => h) : Passes (L2.CX X.prog X.w) X E := passes_call tk hW
/-- in d, not in d, by whole numbers -/
theorem ne_kinds {o u : HO} {H : Hp} {a b : Addr} (h : H a = some o) (h' : H b = some u) (d : o ≠ u) : a ≠ b := ne_of h h' d
end UB
/-! ### the text, what the top has written, the promises -/
namespace UB
open PySem PySem.Spec PyProof.Rows L2
open Ue03 (Change)
open Mir
def top (i : Nat) : Stmt := PySem.Challenge.pw_undobranches_s01_answers.main.body.getD i (.Pass ⟨0, 0, 0, 0⟩)
structure Ad where
  cs : Cs
  CR : Addr
  plains : Addr
def IsK (mg : Str → Option Value) (x : Str) (n : Int) : Prop := ∃ u, mg x = some u ∧ RelV (.int n) u
structure Txt (K : PySem.W.Frag) (mg : Str → Option Value) (A : Ad) : Prop where
  clS : Cls K A.cs.S
  clT : Cls K A.cs.T
  clG : Cls K A.cs.G
  clE : Cls K A.cs.E
  nS_parent : NoAttr K A.cs.S "parent"
  nS_time : NoAttr K A.cs.S "time"
  nS_changes : NoAttr K A.cs.S "changes"
  nS_text : NoAttr K A.cs.S "text"
  nS_kept : NoAttr K A.cs.S "kept"
  nS_children : NoAttr K A.cs.S "children"
  nS_visited : NoAttr K A.cs.S "visited"
  nT_states : NoAttr K A.cs.T "states"
  nT_current : NoAttr K A.cs.T "current"
  nT_next : NoAttr K A.cs.T "next_number"
  nG_changes : NoAttr K A.cs.G "changes"
  nG_text : NoAttr K A.cs.G "text"
  nE_tree : NoAttr K A.cs.E "tree"
  nE_clock : NoAttr K A.cs.E "clock"
  nE_group : NoAttr K A.cs.E "group"
  len : mg "len" = none
  max : mg "max" = none
  min : mg "min" = none
  sorted : mg "sorted" = none
  zip : mg "zip" = none
  exc : mg "Exception" = none
  g_plains : mg "PLAIN_NUMBERS" = some (.ref A.plains)
  plains : ∀ H : Hp, SqT K H A.plains (nl Mir.plains)
  g_Refusal : mg "Refusal" = some (.ref A.CR)
  c_GREATEST_BYTE : IsK mg "GREATEST_BYTE" 255
  c_LONGEST_TEXT : IsK mg "LONGEST_TEXT" 300
  c_LATEST_CLOCK : IsK mg "LATEST_CLOCK" 1000000
  c_START : IsK mg "START" 0
  c_WAIT : IsK mg "WAIT" 1
  c_CHANGE : IsK mg "CHANGE" 2
  c_OPEN_GROUP : IsK mg "OPEN_GROUP" 3
  c_CLOSE_GROUP : IsK mg "CLOSE_GROUP" 4
  c_UNDO : IsK mg "UNDO" 5
  c_REDO : IsK mg "REDO" 6
  c_GO_TO : IsK mg "GO_TO" 7
  c_EARLIER : IsK mg "EARLIER" 8
  c_LATER : IsK mg "LATER" 9
  c_AGO : IsK mg "AGO" 10
  c_GET_TEXT : IsK mg "GET_TEXT" 11
  c_STATE_INFO : IsK mg "STATE_INFO" 12
  c_LEAVES : IsK mg "LEAVES" 13
  c_PATH : IsK mg "PATH" 14
  c_ORIGINS : IsK mg "ORIGINS" 15
  c_REVERT : IsK mg "REVERT" 16
  c_SET_KEPT : IsK mg "SET_KEPT" 17
  c_FORGET : IsK mg "FORGET" 18

/-! a new list of numbers; a list and a session; one or a refusal -/
def NewL (H : Hp) (Q : VK) (l : List Nat) : Prop := ∀ p H', H p = none → Same H H' → H' p = some (.lst (nl l)) → Q (.ref p) H'
def ResL (C : Cs) (ρ : Rho) (H : Hp) (a : Addr) (Q : VK) (r : Se × List Nat) : Prop :=
  ∀ (H' : Hp) (ρ' : Rho) (p : Addr), Own ρ' H' → SeA C ρ' H' r.1 a → Fr All ρ H ρ' H' → H' p = some (.lst (nl r.2)) → ρ' p = none → Q (.ref p) H'
def Ret (K : PySem.W.Frag) (A : Ad) (ρ : Rho) (H : Hp) (a : Addr) (Q : VK) (E : XK) : Res → Prop
  | .ok r => ResL A.cs ρ H a Q r
  | .error c => Rz K A.CR c E H
/-- a session at a -/
structure SesAt (A : Ad) (ρ : Rho) (H : Hp) (s : Se) (a : Addr) : Prop where
  own : Own ρ H
  at_ : SeA A.cs ρ H s a
  wf : s.WF 100
structure TreeAt (A : Ad) (ρ : Rho) (H : Hp) (t : Tr) (a d : Addr) (L : List (Addr × Nd)) : Prop where
  own : Own ρ H
  at_ : TrA A.cs ρ H t a d L
  wf : t.WF 100
def TreeNew (A : Ad) (R : Role → Prop) (ρ : Rho) (H : Hp) (t' : Tr) (a : Addr) (ρ' : Rho) (H' : Hp) : Prop := Own ρ' H' ∧ (∃ d L, TrA A.cs ρ' H' t' a d L) ∧ Fr R ρ H ρ' H'
/-- all but what stands at a is as it was -/
def But (a : Addr) (ρ : Rho) (H : Hp) (ρ' : Rho) (H' : Hp) : Prop := ∀ b o, H b = some o → b ≠ a → H' b = some o ∧ ρ' b = ρ b

section
def sp_text_after (K : PySem.W.Frag) (A : Ad) : Sp := fun vs H Q _ => ∃ ta ca ia l p o w, vs = [.ref ta, .ref ca] ∧ H ta = some (.lst (nl l)) ∧ H ca = some (.tup [vn p, vn o, .ref ia]) ∧ H ia = some (.lst (nl w)) ∧ l.length + w.length ≤ 8000000 ∧ NewL H Q (Ue03.put l p o w)
def sp_region_start_after (K : PySem.W.Frag) (A : Ad) : Sp := fun vs H Q E => ∃ (a len : Nat) (ca ia : Addr) (c : Change), vs = [vn a, vn len, .ref ca] ∧ H ca = some (.tup [vn c.at_, vn c.out, .ref ia]) ∧ H ia = some (.lst (nl c.in_)) ∧
  (match shift len (some a) c with | some b => Q (vn b) H | none => Rz K A.CR (-8) E H)
def sp_origins_after (K : PySem.W.Frag) (A : Ad) : Sp := fun vs H Q _ => ∃ (oa ca ia : Addr) (n : Nat) (l : List Nat) (c : Change), vs = [.ref oa, .ref ca, vn n] ∧ H oa = some (.lst (nl l)) ∧ H ca = some (.tup [vn c.at_, vn c.out, .ref ia]) ∧ H ia = some (.lst (nl c.in_)) ∧
  l.length ≤ 7000000 ∧ c.in_.length ≤ 350 ∧ NewL H Q (origin1 n l c)
def sp_State_init (K : PySem.W.Frag) (A : Ad) : Sp := fun vs H Q _ => ∃ (p dx ca ta : Addr) (pv : V) (n : Nat), vs = [.ref p, pv, vn n, .ref ca, .ref ta] ∧ H p = some (.ins A.cs.S dx []) ∧
  ∀ (H' : Hp) (ha : Addr), H ha = none → H' p = some (.ins A.cs.S dx (stF pv n ca ta 0 ha .non)) → H' ha = some (.lst []) → (∀ b o, H b = some o → b ≠ p → H' b = some o) → Q .non H'
def sp_State_preferred_child (K : PySem.W.Frag) (A : Ad) : Sp := fun vs H Q _ => ∃ (a : Addr) (ρ : Rho) (x : Nd), vs = [.ref a] ∧ StA A.cs ρ H x a ∧ x.children ≠ [] ∧ x.children.Pairwise (· < ·) ∧ Q (vn x.liked) H
def sp_Tree_init (K : PySem.W.Frag) (A : Ad) : Sp := fun vs H Q _ => ∃ (a dx ta : Addr) (ρ : Rho) (l : List Nat), vs = [.ref a, .ref ta] ∧ H a = some (.ins A.cs.T dx []) ∧ Own ρ H ∧ ρ a = none ∧ Lst ρ H ta l ∧
  ∀ (H' : Hp) (ρ' : Rho), Own ρ' H' → (∃ d L, TrA A.cs ρ' H' (Tr.fresh l) a d L) → But a ρ H ρ' H' → Q .non H'
def sp_Tree_find_state (K : PySem.W.Frag) (A : Ad) : Sp := fun vs H Q E => ∃ (a d : Addr) (ρ : Rho) (t : Tr) (L : List (Addr × Nd)) (n : Nat), vs = [.ref a, vn n] ∧ TrA A.cs ρ H t a d L ∧
  (∀ x sa, t.find n = some x → (sa, x) ∈ L → Q (.ref sa) H) ∧ (t.find n = none → Rz K A.CR (-2) E H)
def sp_Tree_current_state (K : PySem.W.Frag) (A : Ad) : Sp := fun vs H Q _ => ∃ (a d : Addr) (ρ : Rho) (t : Tr) (L : List (Addr × Nd)) (x : Nd), vs = [.ref a] ∧ TrA A.cs ρ H t a d L ∧ t.find t.current = some x ∧
  (∀ sa, (sa, x) ∈ L → Q (.ref sa) H)
def sp_Tree_root (K : PySem.W.Frag) (A : Ad) : Sp := fun vs H Q _ => ∃ (a d : Addr) (ρ : Rho) (t : Tr) (L : List (Addr × Nd)), vs = [.ref a] ∧ TrA A.cs ρ H t a d L ∧ t.WF 100 ∧ Q (vn t.root) H
def sp_Tree_leaves (K : PySem.W.Frag) (A : Ad) : Sp := fun vs H Q _ => ∃ (a d : Addr) (ρ : Rho) (t : Tr) (L : List (Addr × Nd)), vs = [.ref a] ∧ TreeAt A ρ H t a d L ∧ NewL H Q t.leaves
def sp_Tree_add_state (K : PySem.W.Frag) (A : Ad) : Sp := fun vs H Q _ => ∃ (a d ca ta : Addr) (ρ : Rho) (t : Tr) (L : List (Addr × Nd)) (time : Nat) (as : List Addr) (cs : List Change) (l : List Nat), vs = [.ref a, vn time, .ref ca, .ref ta] ∧ TreeAt A ρ H t a d L ∧
  ρ ca = none ∧ H ca = some (.lst (as.map V.ref)) ∧ ChgsA ρ H as cs ∧ Lst ρ H ta l ∧ ∀ (H' : Hp) (ρ' : Rho), TreeNew A inTree ρ H (t.addState time cs l) a ρ' H' → Q (vn t.next) H'
def sp_Tree_way_to (K : PySem.W.Frag) (A : Ad) : Sp := fun vs H Q _ => ∃ (a d : Addr) (ρ : Rho) (t : Tr) (L : List (Addr × Nd)) (n : Nat) (x : Nd), vs = [.ref a, vn n] ∧ TreeAt A ρ H t a d L ∧ t.find n = some x ∧ NewL H Q (t.way n)
def sp_Tree_path (K : PySem.W.Frag) (A : Ad) : Sp := fun vs H Q _ => ∃ (a d : Addr) (ρ : Rho) (t : Tr) (L : List (Addr × Nd)) (m n : Nat) (x y : Nd), vs = [.ref a, vn m, vn n] ∧ TreeAt A ρ H t a d L ∧ t.find m = some x ∧ t.find n = some y ∧
  ∀ (H' : Hp) (p u w : Addr), Same H H' → H u = none → H w = none → u ≠ w → H' p = some (.tup [.ref u, vn (t.pathTurn m n), .ref w]) → H' u = some (.lst (nl (t.pathUp m n))) → H' w = some (.lst (nl (t.pathDown m n))) → Q (.ref p) H'
def sp_Tree_visit (K : PySem.W.Frag) (A : Ad) : Sp := fun vs H Q _ => ∃ (a d : Addr) (ρ : Rho) (t : Tr) (L : List (Addr × Nd)) (n : Nat) (x : Nd), vs = [.ref a, vn n] ∧ TreeAt A ρ H t a d L ∧ t.find n = some x ∧ ∀ (H' : Hp) (ρ' : Rho), TreeNew A inTree ρ H (t.visit n) a ρ' H' → Q .non H'
def sp_Tree_can_go (K : PySem.W.Frag) (A : Ad) : Sp := fun vs H Q _ => ∃ (a d : Addr) (ρ : Rho) (t : Tr) (L : List (Addr × Nd)) (n : Nat) (x : Nd), vs = [.ref a, vn n] ∧ TrA A.cs ρ H t a d L ∧ t.find n = some x ∧ Q (.bl (t.canGo n)) H
def sp_Tree_first_leaf_to_go (K : PySem.W.Frag) (A : Ad) : Sp := fun vs H Q _ => ∃ (a d : Addr) (ρ : Rho) (t : Tr) (L : List (Addr × Nd)), vs = [.ref a] ∧ TreeAt A ρ H t a d L ∧ ∀ H' : Hp, Same H H' → Q (vo t.firstLeaf) H'
def sp_Tree_root_can_go (K : PySem.W.Frag) (A : Ad) : Sp := fun vs H Q _ => ∃ (a d : Addr) (ρ : Rho) (t : Tr) (L : List (Addr × Nd)), vs = [.ref a] ∧ TreeAt A ρ H t a d L ∧ ∀ H' : Hp, Same H H' → Q (.bl t.rootCanGo) H'
def sp_Tree_delete_leaf (K : PySem.W.Frag) (A : Ad) : Sp := fun vs H Q _ => ∃ (a d : Addr) (ρ : Rho) (t : Tr) (L : List (Addr × Nd)) (n p : Nat) (x : Nd), vs = [.ref a, vn n] ∧ TreeAt A ρ H t a d L ∧ t.find n = some x ∧ x.parent = some p ∧ x.children = [] ∧
  ∀ (H' : Hp) (ρ' : Rho), TreeNew A inTree ρ H (t.delLeaf n) a ρ' H' → Q .non H'
def sp_Tree_delete_root (K : PySem.W.Frag) (A : Ad) : Sp := fun vs H Q _ => ∃ (a d : Addr) (ρ : Rho) (t : Tr) (L : List (Addr × Nd)), vs = [.ref a] ∧ TreeAt A ρ H t a d L ∧ t.rootCanGo = true ∧ ∀ (H' : Hp) (ρ' : Rho), TreeNew A inTree ρ H t.delRoot a ρ' H' → Q (vn t.root) H'
def sp_Tree_forget (K : PySem.W.Frag) (A : Ad) : Sp := fun vs H Q _ => ∃ (a d : Addr) (ρ : Rho) (t : Tr) (L : List (Addr × Nd)) (n : Nat), vs = [.ref a, vn n] ∧ TreeAt A ρ H t a d L ∧
  ∀ (H' : Hp) (ρ' : Rho) (p : Addr), TreeNew A inTree ρ H (t.forget n).1 a ρ' H' → H p = none → H' p = some (.lst (nl (t.forget n).2)) → ρ' p = none → Q (.ref p) H'
def sp_are_bytes (K : PySem.W.Frag) (A : Ad) : Sp := fun vs H Q _ => ∃ (a : Addr) (l : List Nat), vs = [.ref a] ∧ SqL K H a (nl l) ∧ Q (.bl (isB l)) H
def sp_counted (K : PySem.W.Frag) (A : Ad) : Sp := fun vs H Q _ => ∃ (a : Addr) (l : List Nat), vs = [.ref a] ∧ H a = some (.lst (nl l)) ∧ l.length ≤ 8000000 ∧ NewL H Q (Mir.counted l)
def sp_Group_init (K : PySem.W.Frag) (A : Ad) : Sp := fun vs H Q _ => ∃ (p dx ta : Addr), vs = [.ref p, .ref ta] ∧ H p = some (.ins A.cs.G dx []) ∧
  ∀ (H' : Hp) (ca : Addr), H ca = none → H' p = some (.ins A.cs.G dx (grF ca ta)) → H' ca = some (.lst []) → (∀ b o, H b = some o → b ≠ p → H' b = some o) → Q .non H'
def grpR : Role → Prop
  | .gr | .gc => True
  | _ => False
def sp_Group_take (K : PySem.W.Frag) (A : Ad) : Sp := fun vs H Q _ => ∃ (a ca ta : Addr) (ρ : Rho) (g : List Change × List Nat) (c : Change) (l : List Nat), vs = [.ref a, .ref ca, .ref ta] ∧ GrA A.cs ρ H g a ∧ ChgA ρ H ca c ∧ Lst ρ H ta l ∧ Own ρ H ∧ g.1.length ≤ 1000 ∧
  ∀ H' : Hp, GrA A.cs ρ H' (g.1 ++ [c], l) a → Own ρ H' → Fr grpR ρ H ρ H' → Q .non H'
def sp_Session_init (K : PySem.W.Frag) (A : Ad) : Sp := fun vs H Q _ => ∃ (a dx : Addr) (ρ : Rho), vs = [.ref a] ∧ H a = some (.ins A.cs.E dx []) ∧ Own ρ H ∧ ρ a = none ∧ ∀ (H' : Hp) (ρ' : Rho), Own ρ' H' → SeA A.cs ρ' H' Se.fresh a → But a ρ H ρ' H' → Q .non H'
def sp_Session_refuse_open_group (K : PySem.W.Frag) (A : Ad) : Sp := fun vs H Q E => ∃ (a : Addr) (ρ : Rho) (s : Se), vs = [.ref a] ∧ SeA A.cs ρ H s a ∧ (s.group = none → Q .non H) ∧ (s.group.isSome = true → Rz K A.CR (-9) E H)
def sp_Session_current_text (K : PySem.W.Frag) (A : Ad) : Sp := fun vs H Q _ => ∃ (a : Addr) (ρ : Rho) (s : Se), vs = [.ref a] ∧ SeA A.cs ρ H s a ∧ (s.tree.find s.tree.current).isSome = true ∧ ∀ ta, Lst ρ H ta s.text → Q (.ref ta) H
def sp_Session_where (K : PySem.W.Frag) (A : Ad) : Sp := fun vs H Q _ => ∃ (a : Addr) (ρ : Rho) (s : Se), vs = [.ref a] ∧ SeA A.cs ρ H s a ∧ (s.tree.find s.tree.current).isSome = true ∧ NewL H Q [s.tree.current, s.text.length]
def sp_Session_move (K : PySem.W.Frag) (A : Ad) : Sp := fun vs H Q _ => ∃ (a : Addr) (ρ : Rho) (s : Se) (n : Nat) (x : Nd), vs = [.ref a, vn n] ∧ SesAt A ρ H s a ∧ s.group = none ∧ s.tree.find n = some x ∧ ResL A.cs ρ H a Q (s.move n)
def sp_Session_move_in_order (K : PySem.W.Frag) (A : Ad) : Sp := fun vs H Q E => ∃ (a la : Addr) (ρ : Rho) (s : Se) (n : Nat) (l : List Nat), vs = [.ref a, .ref la, vn n] ∧ SesAt A ρ H s a ∧ s.group = none ∧ H la = some (.lst (nl l)) ∧ (∀ m ∈ l, (s.tree.find m).isSome = true) ∧ Ret K A ρ H a Q E (s.inOrder l n)
def sp_op0 (K : PySem.W.Frag) (A : Ad) (f : Se → Res) : Sp := fun vs H Q E => ∃ (a : Addr) (ρ : Rho) (s : Se), vs = [.ref a] ∧ SesAt A ρ H s a ∧ Ret K A ρ H a Q E (f s)
def sp_op1 (K : PySem.W.Frag) (A : Ad) (f : Se → Nat → Res) : Sp := fun vs H Q E => ∃ (a : Addr) (ρ : Rho) (s : Se) (n : Nat), vs = [.ref a, vn n] ∧ SesAt A ρ H s a ∧ Ret K A ρ H a Q E (f s n)
def sp_op2 (K : PySem.W.Frag) (A : Ad) (f : Se → Nat → Nat → Res) : Sp := fun vs H Q E => ∃ (a : Addr) (ρ : Rho) (s : Se) (m n : Nat), vs = [.ref a, vn m, vn n] ∧ SesAt A ρ H s a ∧ Ret K A ρ H a Q E (f s m n)
abbrev sp_Session_start (K : PySem.W.Frag) (A : Ad) : Sp := fun vs H Q E => ∃ (a ra : Addr) (ρ : Rho) (s : Se) (l : List Nat), vs = [.ref a, .ref ra] ∧ SesAt A ρ H s a ∧ Lst ρ H ra l ∧ Ret K A ρ H a Q E (doStart s l)
abbrev sp_Session_wait (K : PySem.W.Frag) (A : Ad) : Sp := sp_op1 K A doWait
abbrev sp_Session_change (K : PySem.W.Frag) (A : Ad) : Sp := fun vs H Q E => ∃ (a ra : Addr) (ρ : Rho) (s : Se) (p o : Nat) (l : List Nat), vs = [.ref a, vn p, vn o, .ref ra] ∧ SesAt A ρ H s a ∧ Lst ρ H ra l ∧ l.length ≤ 350 ∧ Ret K A ρ H a Q E (doChange s p o l)
abbrev sp_Session_open_group (K : PySem.W.Frag) (A : Ad) : Sp := sp_op0 K A doOpen
abbrev sp_Session_close_group (K : PySem.W.Frag) (A : Ad) : Sp := sp_op0 K A doClose
abbrev sp_Session_undo (K : PySem.W.Frag) (A : Ad) : Sp := sp_op0 K A doUndo
abbrev sp_Session_redo (K : PySem.W.Frag) (A : Ad) : Sp := sp_op0 K A doRedo
abbrev sp_Session_go_to (K : PySem.W.Frag) (A : Ad) : Sp := sp_op1 K A doGo
abbrev sp_Session_earlier (K : PySem.W.Frag) (A : Ad) : Sp := sp_op1 K A doEarlier
abbrev sp_Session_later (K : PySem.W.Frag) (A : Ad) : Sp := sp_op1 K A doLater
abbrev sp_Session_ago (K : PySem.W.Frag) (A : Ad) : Sp := sp_op1 K A doAgo
abbrev sp_Session_get_text (K : PySem.W.Frag) (A : Ad) : Sp := sp_op0 K A doText
abbrev sp_Session_state_info (K : PySem.W.Frag) (A : Ad) : Sp := sp_op1 K A doInfo
abbrev sp_Session_leaves (K : PySem.W.Frag) (A : Ad) : Sp := sp_op0 K A doLeaves
abbrev sp_Session_path (K : PySem.W.Frag) (A : Ad) : Sp := sp_op2 K A doPath
abbrev sp_Session_origins (K : PySem.W.Frag) (A : Ad) : Sp := sp_op0 K A doOrigins
def sp_Session_region_start (K : PySem.W.Frag) (A : Ad) : Sp := fun vs H Q E => ∃ (a : Addr) (ρ : Rho) (s : Se) (n : Nat) (x : Nd) (c : Change), vs = [.ref a, vn n] ∧ SesAt A ρ H s a ∧ s.tree.find n = some x ∧ n ∈ s.tree.way s.tree.current ∧ x.changes = [c] ∧
  (match s.tree.region n c with | some b => ∀ H', Same H H' → Q (vn b) H' | none => Rz K A.CR (-8) E H)
abbrev sp_Session_revert (K : PySem.W.Frag) (A : Ad) : Sp := sp_op1 K A doRevert
abbrev sp_Session_set_kept (K : PySem.W.Frag) (A : Ad) : Sp := sp_op2 K A doKeep
abbrev sp_Session_forget (K : PySem.W.Frag) (A : Ad) : Sp := sp_op1 K A doForget
abbrev sp_Session_text_of (K : PySem.W.Frag) (A : Ad) : Sp := sp_op1 K A doTextOf
def sp_carry (K : PySem.W.Frag) (A : Ad) (lo hi : Nat) : Sp := fun vs H Q E => ∃ (a pa ra : Addr) (ρ : Rho) (s : Se) (c : Nat) (p l : List Nat), vs = [.ref a, vn c, .ref pa, .ref ra] ∧ SesAt A ρ H s a ∧ lo ≤ c ∧ c ≤ hi ∧ H pa = some (.lst (nl p)) ∧ p.length = plainOf c ∧ (c = 17 → p.getD 1 0 ≤ 1) ∧ Lst ρ H ra l ∧ l.length ≤ 350 ∧
  Ret K A ρ H a Q E (carry s c p l)
abbrev sp_carry_out (K : PySem.W.Frag) (A : Ad) : Sp := sp_carry K A 0 19
def sp_goes (K : PySem.W.Frag) (A : Ad) (ok : Nat → Prop) : Sp := fun vs H Q E => ∃ (a pa : Addr) (ρ : Rho) (s : Se) (c : Nat) (p : List Nat), vs = [.ref a, vn c, .ref pa] ∧ SesAt A ρ H s a ∧ ok c ∧ H pa = some (.lst (nl p)) ∧ p.length = plainOf c ∧ Ret K A ρ H a Q E (carry s c p [])
abbrev sp_go (K : PySem.W.Frag) (A : Ad) : Sp := sp_goes K A fun c => 5 ≤ c ∧ c ≤ 10
abbrev sp_tell (K : PySem.W.Frag) (A : Ad) : Sp := sp_goes K A fun c => 11 ≤ c ∧ c ≤ 19 ∧ c ≠ 16 ∧ c ≠ 17 ∧ c ≠ 18
def sp_answer_to (K : PySem.W.Frag) (A : Ad) : Sp := fun vs H Q _ => ∃ (a pa ra : Addr) (ρ : Rho) (s : Se) (c : Nat) (p l : List Nat), vs = [.ref a, vn c, .ref pa, .ref ra] ∧ SesAt A ρ H s a ∧ c ≤ 19 ∧ H pa = some (.lst (nl p)) ∧ p.length = plainOf c ∧ (c = 17 → p.getD 1 0 ≤ 1) ∧ Lst ρ H ra l ∧ l.length ≤ 350 ∧
  ∀ (H' : Hp) (ρ' : Rho) (q : Addr), Own ρ' H' → SeA A.cs ρ' H' (turn s (carry s c p l)).1 a → Fr All ρ H ρ' H' → H' q = some (.lst ((turn s (carry s c p l)).2.map V.int)) → ρ' q = none → Q (.ref q) H'
def sp_answers (K : PySem.W.Frag) (A : Ad) : Sp := fun vs H Q _ => ∃ (a : Addr) (l : List Nat), vs = [.ref a] ∧ SqL K H a (nl l) ∧ Fine l.length Se.fresh l ∧ (run l.length Se.fresh l).length ≤ 12000000 ∧
  ∀ (H' : Hp) (p : Addr), H' p = some (.lst ((run l.length Se.fresh l).map V.int)) → Q (.ref p) H'
def sp_read_call (K : PySem.W.Frag) (A : Ad) : Sp := fun vs H Q _ => ∃ (a : Addr) (l : List Nat) (i : Nat), vs = [.ref a, vn i] ∧ SqL K H a (nl l) ∧ i < l.length ∧ (l.drop i).headD 0 ≤ 19 ∧ readLen (l.drop i) ≤ (l.drop i).length ∧
  ∀ (H' : Hp) (p u w : Addr), Same H H' → H u = none → H w = none → u ≠ w → H' p = some (.tup [vn ((l.drop i).headD 0), .ref u, .ref w, vn (i + readLen (l.drop i))]) → H' u = some (.lst (nl (readPlain (l.drop i)))) → H' w = some (.lst (nl (readRow (l.drop i)))) → Q (.ref p) H'
end
section
variable {K : PySem.W.Frag} {A : Ad} {vs : List V} {H : Hp} {Q : VK} {E : XK}
theorem sp_text_after_len (h : sp_text_after K A vs H Q E) : vs.length = ["text", "change"].length := by
  obtain ⟨_, _, _, _, _, _, _, rfl, _⟩ := h
  rfl
theorem sp_region_start_after_len (h : sp_region_start_after K A vs H Q E) : vs.length = ["start", "length", "change"].length := by
  obtain ⟨_, _, _, _, _, rfl, _⟩ := h
  rfl
theorem sp_origins_after_len (h : sp_origins_after K A vs H Q E) : vs.length = ["origins", "change", "number"].length := by
  obtain ⟨_, _, _, _, _, _, rfl, _⟩ := h
  rfl
theorem sp_State_init_len (h : sp_State_init K A vs H Q E) : vs.length = ["self", "parent", "time", "changes", "text"].length := by
  obtain ⟨_, _, _, _, _, _, rfl, _⟩ := h
  rfl
theorem sp_State_preferred_child_len (h : sp_State_preferred_child K A vs H Q E) : vs.length = ["self"].length := by
  obtain ⟨_, _, _, rfl, _⟩ := h
  rfl
theorem sp_Tree_init_len (h : sp_Tree_init K A vs H Q E) : vs.length = ["self", "text"].length := by
  obtain ⟨_, _, _, _, _, rfl, _⟩ := h
  rfl
theorem sp_Tree_find_state_len (h : sp_Tree_find_state K A vs H Q E) : vs.length = ["self", "number"].length := by
  obtain ⟨_, _, _, _, _, _, rfl, _⟩ := h
  rfl
theorem sp_Tree_current_state_len (h : sp_Tree_current_state K A vs H Q E) : vs.length = ["self"].length := by
  obtain ⟨_, _, _, _, _, _, rfl, _⟩ := h
  rfl
theorem sp_Tree_root_len (h : sp_Tree_root K A vs H Q E) : vs.length = ["self"].length := by
  obtain ⟨_, _, _, _, _, rfl, _⟩ := h
  rfl
theorem sp_Tree_leaves_len (h : sp_Tree_leaves K A vs H Q E) : vs.length = ["self"].length := by
  obtain ⟨_, _, _, _, _, rfl, _⟩ := h
  rfl
theorem sp_Tree_add_state_len (h : sp_Tree_add_state K A vs H Q E) : vs.length = ["self", "time", "changes", "text"].length := by
  obtain ⟨_, _, _, _, _, _, _, _, _, _, _, rfl, _⟩ := h
  rfl
theorem sp_Tree_way_to_len (h : sp_Tree_way_to K A vs H Q E) : vs.length = ["self", "number"].length := by
  obtain ⟨_, _, _, _, _, _, _, rfl, _⟩ := h
  rfl
theorem sp_Tree_path_len (h : sp_Tree_path K A vs H Q E) : vs.length = ["self", "from_state", "to_state"].length := by
  obtain ⟨_, _, _, _, _, _, _, _, _, rfl, _⟩ := h
  rfl
theorem sp_Tree_visit_len (h : sp_Tree_visit K A vs H Q E) : vs.length = ["self", "number"].length := by
  obtain ⟨_, _, _, _, _, _, _, rfl, _⟩ := h
  rfl
theorem sp_Tree_can_go_len (h : sp_Tree_can_go K A vs H Q E) : vs.length = ["self", "number"].length := by
  obtain ⟨_, _, _, _, _, _, _, rfl, _⟩ := h
  rfl
theorem sp_Tree_first_leaf_to_go_len (h : sp_Tree_first_leaf_to_go K A vs H Q E) : vs.length = ["self"].length := by
  obtain ⟨_, _, _, _, _, rfl, _⟩ := h
  rfl
theorem sp_Tree_root_can_go_len (h : sp_Tree_root_can_go K A vs H Q E) : vs.length = ["self"].length := by
  obtain ⟨_, _, _, _, _, rfl, _⟩ := h
  rfl
theorem sp_Tree_delete_leaf_len (h : sp_Tree_delete_leaf K A vs H Q E) : vs.length = ["self", "number"].length := by
  obtain ⟨_, _, _, _, _, _, _, _, rfl, _⟩ := h
  rfl
theorem sp_Tree_delete_root_len (h : sp_Tree_delete_root K A vs H Q E) : vs.length = ["self"].length := by
  obtain ⟨_, _, _, _, _, rfl, _⟩ := h
  rfl
theorem sp_Tree_forget_len (h : sp_Tree_forget K A vs H Q E) : vs.length = ["self", "limit"].length := by
  obtain ⟨_, _, _, _, _, _, rfl, _⟩ := h
  rfl
theorem sp_are_bytes_len (h : sp_are_bytes K A vs H Q E) : vs.length = ["numbers"].length := by
  obtain ⟨_, _, rfl, _⟩ := h
  rfl
theorem sp_counted_len (h : sp_counted K A vs H Q E) : vs.length = ["numbers"].length := by
  obtain ⟨_, _, rfl, _⟩ := h
  rfl
theorem sp_Group_init_len (h : sp_Group_init K A vs H Q E) : vs.length = ["self", "text"].length := by
  obtain ⟨_, _, _, rfl, _⟩ := h
  rfl
theorem sp_Group_take_len (h : sp_Group_take K A vs H Q E) : vs.length = ["self", "change", "text"].length := by
  obtain ⟨_, _, _, _, _, _, _, rfl, _⟩ := h
  rfl
theorem sp_Session_init_len (h : sp_Session_init K A vs H Q E) : vs.length = ["self"].length := by
  obtain ⟨_, _, _, rfl, _⟩ := h
  rfl
theorem sp_Session_refuse_open_group_len (h : sp_Session_refuse_open_group K A vs H Q E) : vs.length = ["self"].length := by
  obtain ⟨_, _, _, rfl, _⟩ := h
  rfl
theorem sp_Session_current_text_len (h : sp_Session_current_text K A vs H Q E) : vs.length = ["self"].length := by
  obtain ⟨_, _, _, rfl, _⟩ := h
  rfl
theorem sp_Session_where_len (h : sp_Session_where K A vs H Q E) : vs.length = ["self"].length := by
  obtain ⟨_, _, _, rfl, _⟩ := h
  rfl
theorem sp_Session_move_len (h : sp_Session_move K A vs H Q E) : vs.length = ["self", "number"].length := by
  obtain ⟨_, _, _, _, _, rfl, _⟩ := h
  rfl
theorem sp_Session_move_in_order_len (h : sp_Session_move_in_order K A vs H Q E) : vs.length = ["self", "numbers", "n"].length := by
  obtain ⟨_, _, _, _, _, _, rfl, _⟩ := h
  rfl
theorem sp_Session_start_len (h : sp_Session_start K A vs H Q E) : vs.length = ["self", "text"].length := by
  obtain ⟨_, _, _, _, _, rfl, _⟩ := h
  rfl
theorem sp_Session_wait_len (h : sp_Session_wait K A vs H Q E) : vs.length = ["self", "ticks"].length := by
  obtain ⟨_, _, _, _, rfl, _⟩ := h
  rfl
theorem sp_Session_change_len (h : sp_Session_change K A vs H Q E) : vs.length = ["self", "position", "removed", "inserted"].length := by
  obtain ⟨_, _, _, _, _, _, _, rfl, _⟩ := h
  rfl
theorem sp_Session_open_group_len (h : sp_Session_open_group K A vs H Q E) : vs.length = ["self"].length := by
  obtain ⟨_, _, _, rfl, _⟩ := h
  rfl
theorem sp_Session_close_group_len (h : sp_Session_close_group K A vs H Q E) : vs.length = ["self"].length := by
  obtain ⟨_, _, _, rfl, _⟩ := h
  rfl
theorem sp_Session_undo_len (h : sp_Session_undo K A vs H Q E) : vs.length = ["self"].length := by
  obtain ⟨_, _, _, rfl, _⟩ := h
  rfl
theorem sp_Session_redo_len (h : sp_Session_redo K A vs H Q E) : vs.length = ["self"].length := by
  obtain ⟨_, _, _, rfl, _⟩ := h
  rfl
theorem sp_Session_go_to_len (h : sp_Session_go_to K A vs H Q E) : vs.length = ["self", "number"].length := by
  obtain ⟨_, _, _, _, rfl, _⟩ := h
  rfl
theorem sp_Session_earlier_len (h : sp_Session_earlier K A vs H Q E) : vs.length = ["self", "n"].length := by
  obtain ⟨_, _, _, _, rfl, _⟩ := h
  rfl
theorem sp_Session_later_len (h : sp_Session_later K A vs H Q E) : vs.length = ["self", "n"].length := by
  obtain ⟨_, _, _, _, rfl, _⟩ := h
  rfl
theorem sp_Session_ago_len (h : sp_Session_ago K A vs H Q E) : vs.length = ["self", "ticks"].length := by
  obtain ⟨_, _, _, _, rfl, _⟩ := h
  rfl
theorem sp_Session_get_text_len (h : sp_Session_get_text K A vs H Q E) : vs.length = ["self"].length := by
  obtain ⟨_, _, _, rfl, _⟩ := h
  rfl
theorem sp_Session_state_info_len (h : sp_Session_state_info K A vs H Q E) : vs.length = ["self", "number"].length := by
  obtain ⟨_, _, _, _, rfl, _⟩ := h
  rfl
theorem sp_Session_leaves_len (h : sp_Session_leaves K A vs H Q E) : vs.length = ["self"].length := by
  obtain ⟨_, _, _, rfl, _⟩ := h
  rfl
theorem sp_Session_path_len (h : sp_Session_path K A vs H Q E) : vs.length = ["self", "from_state", "to_state"].length := by
  obtain ⟨_, _, _, _, _, rfl, _⟩ := h
  rfl
theorem sp_Session_origins_len (h : sp_Session_origins K A vs H Q E) : vs.length = ["self"].length := by
  obtain ⟨_, _, _, rfl, _⟩ := h
  rfl
theorem sp_Session_region_start_len (h : sp_Session_region_start K A vs H Q E) : vs.length = ["self", "number"].length := by
  obtain ⟨_, _, _, _, _, _, rfl, _⟩ := h
  rfl
theorem sp_Session_revert_len (h : sp_Session_revert K A vs H Q E) : vs.length = ["self", "number"].length := by
  obtain ⟨_, _, _, _, rfl, _⟩ := h
  rfl
theorem sp_Session_set_kept_len (h : sp_Session_set_kept K A vs H Q E) : vs.length = ["self", "number", "kept"].length := by
  obtain ⟨_, _, _, _, _, rfl, _⟩ := h
  rfl
theorem sp_Session_forget_len (h : sp_Session_forget K A vs H Q E) : vs.length = ["self", "limit"].length := by
  obtain ⟨_, _, _, _, rfl, _⟩ := h
  rfl
theorem sp_Session_text_of_len (h : sp_Session_text_of K A vs H Q E) : vs.length = ["self", "number"].length := by
  obtain ⟨_, _, _, _, rfl, _⟩ := h
  rfl
theorem sp_read_call_len (h : sp_read_call K A vs H Q E) : vs.length = ["calls", "place"].length := by
  obtain ⟨_, _, _, rfl, _⟩ := h
  rfl
theorem sp_go_len (h : sp_go K A vs H Q E) : vs.length = ["session", "call", "plain"].length := by
  obtain ⟨_, _, _, _, _, _, rfl, _⟩ := h
  rfl
theorem sp_tell_len (h : sp_tell K A vs H Q E) : vs.length = ["session", "call", "plain"].length := by
  obtain ⟨_, _, _, _, _, _, rfl, _⟩ := h
  rfl
theorem sp_carry_out_len (h : sp_carry_out K A vs H Q E) : vs.length = ["session", "call", "plain", "row"].length := by
  obtain ⟨_, _, _, _, _, _, _, _, rfl, _⟩ := h
  rfl
theorem sp_answers_len (h : sp_answers K A vs H Q E) : vs.length = ["calls"].length := by
  obtain ⟨_, _, rfl, _⟩ := h
  rfl
theorem sp_answer_to_len (h : sp_answer_to K A vs H Q E) : vs.length = ["session", "call", "plain", "row"].length := by
  obtain ⟨_, _, _, _, _, _, _, _, rfl, _⟩ := h
  rfl
end
end UB
namespace UB
open PySem PySem.Spec PyProof.Rows L2
open Ue03 (Change)
open Mir
theorem size_le {n : Nat} (h : n ≤ 16000000) : n ≤ sizeLine := by rw [sizeLine_eq]; omega
theorem size_lt {n : Nat} (h : n ≤ 16000000) : n < sizeLine := by rw [sizeLine_eq]; omega
theorem sIx_vn (n d k : Nat) : HT.sIx n d (some ((k : Nat) : Int)) = min k n := HT.sIx_nat n d k
theorem cut_to (l : List Nat) (p : Nat) : cutV (nl l) none (some (p : Int)) = nl (l.take p) := by
  unfold cutV
  rw [sIx_vn, HT.sIx_none, List.drop_zero, Nat.sub_zero, nl_len]
  unfold nl
  rw [List.map_take]
  by_cases h : p ≤ l.length
  · rw [Nat.min_eq_left h]
  · rw [Nat.min_eq_right (by omega), List.take_of_length_le (by rw [List.length_map]; omega), List.take_of_length_le (by rw [List.length_map]; omega)]
theorem cut_from (l : List Nat) (p : Nat) : cutV (nl l) (some (p : Int)) none = nl (l.drop p) := by
  unfold cutV
  rw [sIx_vn, HT.sIx_none, nl_len]
  unfold nl
  rw [List.map_drop]
  by_cases h : p ≤ l.length
  · rw [Nat.min_eq_left h, List.take_of_length_le (by rw [List.length_drop, List.length_map]; omega)]
  · rw [Nat.min_eq_right (by omega), List.drop_of_length_le (l := List.map vn l) (by rw [List.length_map]; omega), List.drop_of_length_le (l := List.map vn l) (by rw [List.length_map]; omega)]
    rw [List.take_nil]
theorem cut_mid (l : List Nat) (a b : Nat) : cutV (nl l) (some (a : Int)) (some (b : Int)) = nl ((l.drop a).take (b - a)) := by
  unfold cutV
  rw [sIx_vn, sIx_vn, nl_len]
  unfold nl
  rw [List.map_take, List.map_drop]
  have hl : (List.map vn l).length = l.length := List.length_map _
  by_cases h1 : a ≤ l.length
  · rw [Nat.min_eq_left h1]
    by_cases h2 : b ≤ l.length
    · rw [Nat.min_eq_left h2]
    · rw [Nat.min_eq_right (by omega), List.take_of_length_le (by rw [List.length_drop, hl]; omega), List.take_of_length_le (by rw [List.length_drop, hl]; omega)]
  · rw [Nat.min_eq_right (by omega : l.length ≤ a), List.drop_of_length_le (i := l.length) (by rw [hl]; omega), List.drop_of_length_le (i := a) (by rw [hl]; omega), List.take_nil, List.take_nil]
theorem nl_at {l : List Nat} {i n : Nat} (h : l[i]? = some n) : (nl l)[i]? = some (vn n) := by
  unfold nl
  rw [List.getElem?_map, h]
  rfl
theorem len_v (l : List Nat) : V.int ((nl l).length : Int) = vn l.length := by rw [nl_len]; rfl
theorem vn_add (a b : Nat) : V.int ((a : Int) + (b : Int)) = vn (a + b) := rfl
theorem vn_cut {a b : Nat} {o : Option Int} {xs : List V} : cutV xs (some ((a : Int) + (b : Int))) o = cutV xs (some ((a + b : Nat) : Int)) o := rfl
theorem vn_one (a : Nat) : V.int ((a : Int) + 1) = vn (a + 1) := rfl
theorem ref_len (l : List Addr) : V.int ((l.map V.ref).length : Int) = vn l.length := by rw [List.length_map]; rfl
/-! dict lookups -/
theorem val_find (n : Nat) : ∀ L : List (Addr × Nd), valV (L.map kvOf) (Sum.inl (n : Int)) = (L.find? fun p => p.2.number == n).map fun p => V.ref p.1
  | [] => rfl
  | p :: r => by
    rw [List.map_cons]
    by_cases h : p.2.number = n
    · rw [valV_pos (by unfold kvOf; rw [h]), List.find?_cons_of_pos (by simpa using h)]
      rfl
    · have h' : ¬ (kvOf p).1 = Sum.inl (n : Int) := by
        intro e
        have e2 := Sum.inl.inj e
        exact h (Int.ofNat.inj e2)
      rw [valV_neg h', List.find?_cons_of_neg (by simpa using h), val_find n r]
theorem find_map (n : Nat) : ∀ L : List (Addr × Nd), (L.map (·.2)).find? (fun x => x.number == n) = (L.find? fun p => p.2.number == n).map (·.2)
  | [] => rfl
  | p :: r => by
    rw [List.map_cons]
    by_cases h : p.2.number = n
    · rw [List.find?_cons_of_pos (by simpa using h), List.find?_cons_of_pos (by simpa using h)]
      rfl
    · rw [List.find?_cons_of_neg (by simpa using h), List.find?_cons_of_neg (by simpa using h), find_map n r]
section
variable {C : Cs} {ρ : Rho} {H : Hp} {t : Tr} {a d : Addr} {L : List (Addr × Nd)} {n : Nat} {x : Nd}
theorem tr_some (h : TrA C ρ H t a d L) (e : t.find n = some x) : ∃ sa, (sa, x) ∈ L ∧ DGet H d (vn n) (some (.ref sa)) ∧ valV (L.map kvOf) (Sum.inl (n : Int)) = some (.ref sa) := by
  unfold Tr.find at e
  rw [← h.nodes, find_map] at e
  obtain ⟨p, e1, e2⟩ := Option.map_eq_some_iff.mp e
  have e3 : valV (L.map kvOf) (Sum.inl (n : Int)) = some (.ref p.1) := by rw [val_find, e1]; rfl
  refine ⟨p.1, ?_, ?_, e3⟩
  · have m := List.mem_of_find?_eq_some e1
    subst e2
    exact m
  · have g := DGet.k (k := Sum.inl (n : Int)) h.dict
    rw [e3] at g
    exact g
theorem tr_none (h : TrA C ρ H t a d L) (e : t.find n = none) : DGet H d (vn n) none := by
  unfold Tr.find at e
  rw [← h.nodes, find_map] at e
  have e1 := Option.map_eq_none_iff.mp e
  have e3 : valV (L.map kvOf) (Sum.inl (n : Int)) = none := by rw [val_find, e1]; rfl
  have g := DGet.k (k := Sum.inl (n : Int)) h.dict
  rw [e3] at g
  exact g
theorem find_num (e : t.find n = some x) : x.number = n := by
  have := List.find?_some e
  simpa using this
theorem find_mem (e : t.find n = some x) : x ∈ t.nodes := List.mem_of_find?_eq_some e
end
theorem rep_one (w : List Nat) (n : Nat) : (List.replicate ((nl w).length : Int).toNat [vn n]).flatten = nl (List.replicate w.length n) := by
  rw [nl_len, Int.toNat_natCast]
  unfold nl
  rw [List.map_replicate, List.flatten_replicate_singleton]
theorem st_new (a b c d f : V) : putF "visited" .non (putF "children" f (putF "kept" (.int 0) (putF "text" d (putF "changes" c (putF "time" b (putF "parent" a [])))))) = ([("parent", a), ("time", b), ("changes", c), ("text", d), ("kept", .int 0), ("children", f), ("visited", .non)] : List (Str × V)) := by
  have z : ∀ (f g : Str) {v x : V} {r q : List (Str × V)}, ¬ g = f → putF f v r = q → putF f v ((g, x) :: r) = (g, x) :: q := fun _ _ _ _ _ _ h e => (put_past h).trans (congrArg _ e)
  have e0 : putF "parent" (a) ([] : List (Str × V)) = ([("parent", a)] : List (Str × V)) := rfl
  have e1 : putF "time" (b) ([("parent", a)] : List (Str × V)) = ([("parent", a), ("time", b)] : List (Str × V)) := (z "time" "parent" (by decide +kernel) rfl)
  have e2 : putF "changes" (c) ([("parent", a), ("time", b)] : List (Str × V)) = ([("parent", a), ("time", b), ("changes", c)] : List (Str × V)) := (z "changes" "parent" (by decide +kernel) (z "changes" "time" (by decide +kernel) rfl))
  have e3 : putF "text" (d) ([("parent", a), ("time", b), ("changes", c)] : List (Str × V)) = ([("parent", a), ("time", b), ("changes", c), ("text", d)] : List (Str × V)) := (z "text" "parent" (by decide +kernel) (z "text" "time" (by decide +kernel) (z "text" "changes" (by decide +kernel) rfl)))
  have e4 : putF "kept" (.int 0) ([("parent", a), ("time", b), ("changes", c), ("text", d)] : List (Str × V)) = ([("parent", a), ("time", b), ("changes", c), ("text", d), ("kept", .int 0)] : List (Str × V)) := (z "kept" "parent" (by decide +kernel) (z "kept" "time" (by decide +kernel) (z "kept" "changes" (by decide +kernel) (z "kept" "text" (by decide +kernel) rfl))))
  have e5 : putF "children" (f) ([("parent", a), ("time", b), ("changes", c), ("text", d), ("kept", .int 0)] : List (Str × V)) = ([("parent", a), ("time", b), ("changes", c), ("text", d), ("kept", .int 0), ("children", f)] : List (Str × V)) := (z "children" "parent" (by decide +kernel) (z "children" "time" (by decide +kernel) (z "children" "changes" (by decide +kernel) (z "children" "text" (by decide +kernel) (z "children" "kept" (by decide +kernel) rfl)))))
  have e6 : putF "visited" (.non) ([("parent", a), ("time", b), ("changes", c), ("text", d), ("kept", .int 0), ("children", f)] : List (Str × V)) = ([("parent", a), ("time", b), ("changes", c), ("text", d), ("kept", .int 0), ("children", f), ("visited", .non)] : List (Str × V)) := (z "visited" "parent" (by decide +kernel) (z "visited" "time" (by decide +kernel) (z "visited" "changes" (by decide +kernel) (z "visited" "text" (by decide +kernel) (z "visited" "kept" (by decide +kernel) (z "visited" "children" (by decide +kernel) rfl))))))
  rw [e0, e1, e2, e3, e4, e5, e6]
theorem gr_new (a b : V) : putF "text" b (putF "changes" a []) = ([("changes", a), ("text", b)] : List (Str × V)) := (put_past (by decide +kernel)).trans (congrArg _ rfl)
theorem tr_new (a b c : V) : putF "next_number" c (putF "current" b (putF "states" a [])) = ([("states", a), ("current", b), ("next_number", c)] : List (Str × V)) := by
  have e1 : putF "current" b (putF "states" a []) = ([("states", a), ("current", b)] : List (Str × V)) := (put_past (by decide +kernel)).trans (congrArg _ rfl)
  rw [e1]
  exact (put_past (by decide +kernel)).trans (congrArg _ ((put_past (by decide +kernel)).trans (congrArg _ rfl)))
theorem se_new (a b c : V) : putF "group" c (putF "clock" b (putF "tree" a [])) = ([("tree", a), ("clock", b), ("group", c)] : List (Str × V)) := by
  have e1 : putF "clock" b (putF "tree" a []) = ([("tree", a), ("clock", b)] : List (Str × V)) := (put_past (by decide +kernel)).trans (congrArg _ rfl)
  rw [e1]
  exact (put_past (by decide +kernel)).trans (congrArg _ ((put_past (by decide +kernel)).trans (congrArg _ rfl)))
theorem if_true_of {c : Bool} {A B : Prop} (hc : c = true) (h : A) : if c = true then A else B := by
  rw [if_pos hc]
  exact h
theorem if_false_of {c : Bool} {A B : Prop} (hc : c = false) (h : B) : if c = true then A else B := by
  rw [hc, if_neg Bool.false_ne_true]
  exact h
end UB
namespace UB
open PySem PySem.Spec PyProof.Rows L2
open Ue03 (Change)
open Mir
/-! ### what a step of the program makes of the layout -/
def one (n : Nat) : Role → Prop := fun r => r = .st n ∨ r = .ch n
theorem one_tree {n : Nat} : ∀ r, one n r → inTree r := fun r h => by
  rcases h with h | h <;> subst h <;> trivial
def modP (n : Nat) (f : Nd → Nd) (p : Addr × Nd) : Addr × Nd := (p.1, if p.2.number = n then f p.2 else p.2)
theorem modP_kv {n : Nat} {f : Nd → Nd} (hf : ∀ x, (f x).number = x.number) (p : Addr × Nd) : kvOf (modP n f p) = kvOf p := by
  unfold kvOf modP
  dsimp only
  split
  · rw [hf]
  · rfl
theorem nums_mod {t : Tr} {n : Nat} {f : Nd → Nd} (hf : ∀ x, (f x).number = x.number) : (t.mod n f).nodes.map (fun x => x.number) = t.nodes.map fun x => x.number := by
  unfold Tr.mod
  rw [List.map_map]
  apply List.map_congr_left
  intro x _
  show (if x.number = n then f x else x).number = x.number
  split
  · rw [hf]
  · rfl
theorem sorted_nodup {l : List Nat} (h : l.Pairwise (· < ·)) : l.Nodup := h.imp fun h => Nat.ne_of_lt h
section
variable {C : Cs} {ρ ρ' : Rho} {H H' : Hp} {t : Tr} {a d sa : Addr} {L : List (Addr × Nd)} {n : Nat} {x : Nd}
theorem uniq_of (h : TrA C ρ H t a d L) (nd : (t.nodes.map fun x => x.number).Nodup) (m : (sa, x) ∈ L) : ∀ p ∈ L, p.2.number = x.number → p = (sa, x) := by
  have e : (L.map fun p => p.2.number).Nodup := by
    have z : (L.map fun p => p.2.number) = t.nodes.map fun x => x.number := by
      rw [← h.nodes, List.map_map]
      rfl
    rw [z]
    exact nd
  clear h nd
  intro p hp hn
  induction L with
  | nil => cases hp
  | cons q r ih =>
    rw [List.map_cons, List.nodup_cons] at e
    rcases List.mem_cons.mp hp with rfl | hp'
    · rcases List.mem_cons.mp m with m' | m'
      · exact m'.symm
      · exact absurd (List.mem_map.mpr ⟨(sa, x), m', hn.symm⟩) e.1
    · rcases List.mem_cons.mp m with m' | m'
      · subst m'
        exact absurd (List.mem_map.mpr ⟨p, hp', hn⟩) e.1
      · exact ih m' e.2 hp'
theorem tr_mod (h : TrA C ρ H t a d L) {f : Nd → Nd} (hf : ∀ x, (f x).number = x.number) (fr : Fr (one n) ρ H ρ' H') (new : ∀ p ∈ L, p.2.number = n → StA C ρ' H' (f p.2) p.1) : TrA C ρ' H' (t.mod n f) a d (L.map (modP n f)) := by
  obtain ⟨dx, e⟩ := h.obj
  obtain ⟨e', r'⟩ := fr a _ e (by rw [h.role]; intro r hr; cases hr; intro z; rcases z with z | z <;> cases z)
  obtain ⟨ed, rd⟩ := fr d _ h.dict (by rw [h.drole]; intro r hr; cases hr; intro z; rcases z with z | z <;> cases z)
  refine ⟨r'.trans h.role, ⟨dx, e'⟩, rd.trans h.drole, ?_, ?_, fun p hp => ?_⟩
  · rw [ed, List.map_map]
    have z : kvOf ∘ modP n f = kvOf := funext fun p => modP_kv hf p
    rw [z]
  · rw [List.map_map]
    unfold Tr.mod
    rw [← h.nodes, List.map_map]
    rfl
  · obtain ⟨q, hq, rfl⟩ := List.mem_map.mp hp
    unfold modP
    dsimp only
    split
    · rename_i c
      exact new q hq c
    · rename_i c
      refine (h.at_ q hq).fr fr ?_ ?_
      · intro z
        rcases z with z | z
        · injection z with z
          exact c z
        · cases z
      · intro z
        rcases z with z | z
        · cases z
        · injection z with z
          exact c z
/-- a field of the state's own object is stored -/
theorem tr_obj (h : TrA C ρ H t a d L) (nd : (t.nodes.map fun x => x.number).Nodup) (m : (sa, x) ∈ L) {f : Nd → Nd} (hf : ∀ x, (f x).number = x.number) {o : HO} (new : StA C ρ (upd H sa o) (f x) sa) :
    TrA C ρ (upd H sa o) (t.mod x.number f) a d (L.map (modP x.number f)) ∧ Fr inTree ρ H ρ (upd H sa o) := by
  have fr : Fr (one x.number) ρ H ρ (upd H sa o) := Fr.upd (h.at_ _ m).role (.inl rfl)
  refine ⟨tr_mod h hf fr fun p hp e => ?_, fr.wide one_tree⟩
  rw [uniq_of h nd m p hp e]
  exact new
theorem tr_field (h : TrA C ρ H t a d L) {c k : Nat} {dx : Addr} : TrA C ρ (upd H a (.ins C.T dx (trF d c k))) { t with current := c, next := k } a d L ∧ Fr inTree ρ H ρ (upd H a (.ins C.T dx (trF d c k))) := by
  have fr : Fr (fun r => r = .tr) ρ H ρ (upd H a (.ins C.T dx (trF d c k))) := Fr.upd h.role rfl
  obtain ⟨ed, rd⟩ := fr d _ h.dict (by rw [h.drole]; intro r hr; cases hr; intro z; cases z)
  refine ⟨⟨h.role, ⟨dx, upd_same⟩, h.drole, ed, h.nodes, fun p hp => (h.at_ p hp).fr fr (by intro z; cases z) (by intro z; cases z)⟩, fr.wide fun r hr => by subst hr; trivial⟩
/-- visited is stored -/
theorem st_see {b : Nat} (h : StA C ρ H x a) : ∃ dx ca ta ha, H a = some (.ins C.S dx (stF (vo x.parent) x.time ca ta x.kept ha (vo x.visited))) ∧
    ∀ b, StA C ρ (upd H a (.ins C.S dx (stF (vo x.parent) x.time ca ta x.kept ha (vn b)))) { x with visited := some b } a := by
  obtain ⟨r, dx, ca, ta, ha, as, e, ⟨rc, ec, cs⟩, l, rh, eh⟩ := h
  refine ⟨dx, ca, ta, ha, e, fun b => ?_⟩
  have fr : Fr (fun r => r = .st x.number) ρ H ρ (upd H a (.ins C.S dx (stF (vo x.parent) x.time ca ta x.kept ha (vn b)))) := Fr.upd r rfl
  obtain ⟨ec', rc'⟩ := fr.keep ec rc
  obtain ⟨eh', rh'⟩ := fr ha _ eh (by rw [rh]; intro z hz; cases hz; intro y; cases y)
  exact ⟨r, dx, ca, ta, ha, as, upd_same, ⟨rc, ec', cs.fr fr⟩, l.fr fr, rh, eh'⟩
theorem st_keep (h : StA C ρ H x a) : ∃ dx ca ta ha, H a = some (.ins C.S dx (stF (vo x.parent) x.time ca ta x.kept ha (vo x.visited))) ∧
    ∀ b, StA C ρ (upd H a (.ins C.S dx (stF (vo x.parent) x.time ca ta b ha (vo x.visited)))) { x with kept := b } a := by
  obtain ⟨r, dx, ca, ta, ha, as, e, ⟨rc, ec, cs⟩, l, rh, eh⟩ := h
  refine ⟨dx, ca, ta, ha, e, fun b => ?_⟩
  have fr : Fr (fun r => r = .st x.number) ρ H ρ (upd H a (.ins C.S dx (stF (vo x.parent) x.time ca ta b ha (vo x.visited)))) := Fr.upd r rfl
  obtain ⟨ec', rc'⟩ := fr.keep ec rc
  obtain ⟨eh', rh'⟩ := fr ha _ eh (by rw [rh]; intro z hz; cases hz; intro y; cases y)
  exact ⟨r, dx, ca, ta, ha, as, upd_same, ⟨rc, ec', cs.fr fr⟩, l.fr fr, rh, eh'⟩
theorem st_orphan (h : StA C ρ H x a) : ∃ dx ca ta ha, H a = some (.ins C.S dx (stF (vo x.parent) x.time ca ta x.kept ha (vo x.visited))) ∧
    StA C ρ (upd H a (.ins C.S dx (stF .non x.time ca ta x.kept ha (vo x.visited)))) { x with parent := none } a := by
  obtain ⟨r, dx, ca, ta, ha, as, e, ⟨rc, ec, cs⟩, l, rh, eh⟩ := h
  refine ⟨dx, ca, ta, ha, e, ?_⟩
  have fr : Fr (fun r => r = .st x.number) ρ H ρ (upd H a (.ins C.S dx (stF .non x.time ca ta x.kept ha (vo x.visited)))) := Fr.upd r rfl
  obtain ⟨ec', rc'⟩ := fr.keep ec rc
  obtain ⟨eh', rh'⟩ := fr ha _ eh (by rw [rh]; intro z hz; cases hz; intro y; cases y)
  exact ⟨r, dx, ca, ta, ha, as, upd_same, ⟨rc, ec', cs.fr fr⟩, l.fr fr, rh, eh'⟩
theorem st_bare {la : Addr} (h : StA C ρ H x a) (hl : ρ la = none) (el : H la = some (.lst [])) : ∃ dx ca ta ha, H a = some (.ins C.S dx (stF (vo x.parent) x.time ca ta x.kept ha (vo x.visited))) ∧
    StA C ρ (upd H a (.ins C.S dx (stF (vo x.parent) x.time la ta x.kept ha (vo x.visited)))) { x with changes := [] } a := by
  obtain ⟨r, dx, ca, ta, ha, as, e, ⟨rc, ec, cs⟩, l, rh, eh⟩ := h
  refine ⟨dx, ca, ta, ha, e, ?_⟩
  have fr : Fr (fun r => r = .st x.number) ρ H ρ (upd H a (.ins C.S dx (stF (vo x.parent) x.time la ta x.kept ha (vo x.visited)))) := Fr.upd r rfl
  obtain ⟨el', rl'⟩ := fr.keep el hl
  obtain ⟨eh', rh'⟩ := fr ha _ eh (by rw [rh]; intro z hz; cases hz; intro y; cases y)
  exact ⟨r, dx, la, ta, ha, [], upd_same, ⟨hl, el', trivial⟩, l.fr fr, rh, eh'⟩
/-- the list of children is changed -/
theorem tr_kids (h : TrA C ρ H t a d L) (nd : (t.nodes.map fun x => x.number).Nodup) (m : (sa, x) ∈ L) : ∃ dx ca ta ha, H sa = some (.ins C.S dx (stF (vo x.parent) x.time ca ta x.kept ha (vo x.visited))) ∧ H ha = some (.lst (nl x.children)) ∧
    ∀ g : List Nat → List Nat, TrA C ρ (upd H ha (.lst (nl (g x.children)))) (t.mod x.number fun y => { y with children := g y.children }) a d (L.map (modP x.number fun y => { y with children := g y.children })) ∧
      Fr inTree ρ H ρ (upd H ha (.lst (nl (g x.children)))) := by
  obtain ⟨r, dx, ca, ta, ha, as, e, ⟨rc, ec, cs⟩, l, rh, eh⟩ := h.at_ _ m
  refine ⟨dx, ca, ta, ha, e, eh, fun g => ?_⟩
  have fr : Fr (fun r => r = .ch x.number) ρ H ρ (upd H ha (.lst (nl (g x.children)))) := Fr.upd rh rfl
  have fr1 : Fr (one x.number) ρ H ρ (upd H ha (.lst (nl (g x.children)))) := fr.wide fun r h => .inr h
  refine ⟨tr_mod h (f := fun y => { y with children := g y.children }) (fun _ => rfl) fr1 fun p hp e' => ?_, fr1.wide one_tree⟩
  rw [uniq_of h nd m p hp e']
  obtain ⟨e2, _⟩ := fr sa _ e (by rw [r]; intro z hz; cases hz; intro y; cases y)
  obtain ⟨ec', rc'⟩ := fr.keep ec rc
  exact ⟨r, dx, ca, ta, ha, as, e2, ⟨rc, ec', cs.fr fr⟩, l.fr fr, rh, upd_same⟩
/-- one more state -/
theorem tr_add {y : Addr} (h : TrA C ρ H t a d L) (hy : StA C ρ H x y) : TrA C ρ (upd H d (.dK ((L ++ [(y, x)]).map kvOf))) (t.add x) a d (L ++ [(y, x)]) ∧ Fr inTree ρ H ρ (upd H d (.dK ((L ++ [(y, x)]).map kvOf))) := by
  obtain ⟨dx, e⟩ := h.obj
  have fr : Fr (fun r => r = .di) ρ H ρ (upd H d (.dK ((L ++ [(y, x)]).map kvOf))) := Fr.upd h.drole rfl
  obtain ⟨e', r'⟩ := fr a _ e (by rw [h.role]; intro r hr; cases hr; intro z; cases z)
  refine ⟨⟨h.role, ⟨dx, e'⟩, h.drole, upd_same, ?_, fun p hp => ?_⟩, fr.wide fun r hr => by subst hr; trivial⟩
  · rw [List.map_append, h.nodes]
    rfl
  · rcases List.mem_append.mp hp with hp | hp
    · exact (h.at_ p hp).fr fr (by intro z; cases z) (by intro z; cases z)
    · rw [List.mem_singleton.mp hp]
      exact hy.fr fr (by intro z; cases z) (by intro z; cases z)
/-- a state less -/
theorem tr_del (h : TrA C ρ H t a d L) (n : Nat) : TrA C ρ (upd H d (.dK (dropK (L.map kvOf) (Sum.inl (n : Int))))) (t.del n) a d (L.filter fun p => p.2.number != n) ∧ Fr inTree ρ H ρ (upd H d (.dK (dropK (L.map kvOf) (Sum.inl (n : Int))))) := by
  obtain ⟨dx, e⟩ := h.obj
  have fr : Fr (fun r => r = .di) ρ H ρ (upd H d (.dK (dropK (L.map kvOf) (Sum.inl (n : Int))))) := Fr.upd h.drole rfl
  obtain ⟨e', r'⟩ := fr a _ e (by rw [h.role]; intro r hr; cases hr; intro z; cases z)
  refine ⟨⟨h.role, ⟨dx, e'⟩, h.drole, ?_, ?_, fun p hp => ?_⟩, fr.wide fun r hr => by subst hr; trivial⟩
  · rw [upd_same]
    congr 2
    unfold dropK
    rw [List.filter_map]
    congr 1
    apply List.filter_congr
    intro p _
    show decide ((kvOf p).1 ≠ Sum.inl (n : Int)) = (p.2.number != n)
    unfold kvOf
    by_cases c : p.2.number = n
    · subst c
      simp
    · have c2 : ¬ ((Sum.inl (p.2.number : Int) : Key) = Sum.inl (n : Int)) := fun z => c (Int.ofNat.inj (Sum.inl.inj z))
      rw [decide_eq_true c2]
      exact (bne_iff_ne.mpr c).symm
  · unfold Tr.del
    rw [← h.nodes, List.filter_map]
    rfl
  · exact (h.at_ p (List.mem_filter.mp hp).1).fr fr (by intro z; cases z) (by intro z; cases z)
/-- a session's tree has changed -/
theorem se_with {s : Se} {t' : Tr} {ta d' : Addr} {L' : List (Addr × Nd)} (fr : Fr inTree ρ H ρ' H') {dx : Addr} {gv : V} (r : ρ a = some .se) (e : H a = some (.ins C.E dx (seF ta s.clock gv))) (hg : GvA C ρ H gv s.group)
    (h' : TrA C ρ' H' t' ta d' L') : SeA C ρ' H' { s with tree := t' } a := by
  obtain ⟨e', r'⟩ := fr a _ e (by rw [r]; intro z hz; cases hz; intro y; exact y)
  exact ⟨r'.trans r, dx, ta, d', L', gv, e', h', hg.fr fr (fun z => z) (fun z => z)⟩
end

/-! ### flat values, in -/
theorem flat_vo (o : Option Nat) : flatV (vo o) = true := by cases o <;> rfl
theorem flat_nl (l : List Nat) : (nl l).all flatV = true := by
  rw [List.all_eq_true]
  intro v hv
  obtain ⟨n, _, rfl⟩ := List.mem_map.mp hv
  rfl
theorem in_nl (n : Nat) (l : List Nat) : inV (vn n) (nl l) = decide (n ∈ l) := by
  unfold inV nl
  induction l with
  | nil => simp
  | cons a r ih =>
    rw [List.map_cons, List.any_cons, ih]
    have e : eqV (vn a) (vn n) = decide (n = a) := by
      show ((a : Int) == (n : Int)) = decide (n = a)
      by_cases c : n = a
      · subst c
        simp
      · have c2 : ¬ (a : Int) = (n : Int) := fun z => c (Int.ofNat.inj z).symm
        rw [decide_eq_false c]
        exact beq_false_of_ne c2
    rw [e]
    by_cases c : n = a
    · subst c
      simp
    · simp [c]
theorem in_vo (o : Option Nat) (l : List Nat) : inV (vo o) (nl l) = (match o with | some v => decide (v ∈ l) | none => false) := by
  cases o with
  | some v => exact in_nl v l
  | none =>
    unfold inV nl
    induction l with
    | nil => rfl
    | cons a r ih =>
      rw [List.map_cons, List.any_cons, ih]
      rfl
theorem last_of : ∀ {l : List Nat} {m : Nat}, l.Pairwise (· < ·) → m ∈ l → (∀ y ∈ l, y ≤ m) → l.getLastD 0 = m
  | [], m, _, h, _ => by cases h
  | [a], m, _, h, _ => (List.mem_singleton.mp h).symm
  | a :: b :: l, m, s, h, k => by
    have s2 := s
    rw [List.pairwise_cons] at s2
    have h2 : m ∈ b :: l := by
      rcases List.mem_cons.mp h with rfl | h
      · have h1 := k b (List.mem_cons_of_mem _ List.mem_cons_self)
        have h3 := s2.1 b List.mem_cons_self
        omega
      · exact h
    have := last_of (l := b :: l) s2.2 h2 fun y hy => k y (List.mem_cons_of_mem _ hy)
    simpa using this
theorem head_of {l : List Nat} {m : Nat} (s : l.Pairwise (· < ·)) (h : m ∈ l) (k : ∀ y ∈ l, m ≤ y) : l.head? = some m := by
  cases l with
  | nil => cases h
  | cons a r =>
    rw [List.pairwise_cons] at s
    rcases List.mem_cons.mp h with rfl | h
    · rfl
    · have h1 := k a List.mem_cons_self
      have h2 := s.1 m h
      omega
theorem nl_inj {l m : List Nat} (h : nl l = nl m) : l = m := by
  unfold nl at h
  exact (List.map_inj_right (fun a b e => by
    injection e with e
    exact Int.ofNat.inj e)).mp h
theorem ints_mem {l : List Nat} {m : Int} (h : m ∈ l.map fun (n : Nat) => (n : Int)) : ∃ n ∈ l, m = (n : Int) := by
  obtain ⟨n, h1, h2⟩ := List.mem_map.mp h
  exact ⟨n, h1, h2.symm⟩
theorem kv_keys (L : List (Addr × Nd)) : (L.map kvOf).map (·.1) = (L.map fun p => ((p.2.number : Nat) : Int)).map Sum.inl := by
  rw [List.map_map, List.map_map]
  rfl
theorem first_at {n : Nat} : ∀ {l : List Nat}, n ∈ l → ∃ j : Nat, l[j]? = some n ∧ ∀ i : Nat, i < j → l[i]? ≠ some n
  | [], h => by cases h
  | a :: r, h => by
    by_cases c : a = n
    · exact ⟨0, by rw [c]; rfl, fun i hi => by omega⟩
    · rcases List.mem_cons.mp h with h | h
      · exact absurd h.symm c
      · obtain ⟨j, h1, h2⟩ := first_at h
        refine ⟨j + 1, by simpa using h1, fun i hi => ?_⟩
        cases i with
        | zero =>
          intro z
          exact c (Option.some.inj z)
        | succ i =>
          have := h2 i (by omega)
          simpa using this
theorem erase_first {n : Nat} : ∀ {l : List Nat} {j : Nat}, l[j]? = some n → (∀ i : Nat, i < j → l[i]? ≠ some n) → l.erase n = l.eraseIdx j
  | [], j, h, _ => by simp at h
  | a :: r, 0, h, _ => by
    have e : a = n := Option.some.inj h
    subst e
    rw [List.erase_cons_head]
    rfl
  | a :: r, j + 1, h, k => by
    have c : ¬ a = n := fun z => by
      have := k 0 (by omega)
      exact this (by rw [z]; rfl)
    rw [List.erase_cons_tail (by simpa using c), List.eraseIdx_cons_succ, erase_first (l := r) (j := j) (by simpa using h) fun i hi => by
      have := k (i + 1) (by omega)
      simpa using this]
theorem erase_ints : ∀ (l : List Nat) (j : Nat), ((l.map fun (n : Nat) => (n : Int)).eraseIdx j).map V.int = nl (l.eraseIdx j)
  | [], _ => rfl
  | a :: r, 0 => by
    show (r.map fun (n : Nat) => (n : Int)).map V.int = nl r
    rw [← nl_ints]
  | a :: r, j + 1 => by
    show V.int (a : Int) :: ((r.map fun (n : Nat) => (n : Int)).eraseIdx j).map V.int = nl (a :: r.eraseIdx j)
    rw [erase_ints r j]
    rfl
/-! a list of a def's own, that it still fills -/
def drop (ρ : Rho) (a : Addr) : Rho := fun b => if b = a then none else ρ b
theorem drop_same {ρ : Rho} {a : Addr} : drop ρ a a = none := if_pos rfl
theorem drop_ne {ρ : Rho} {a b : Addr} (h : b ≠ a) : drop ρ a b = ρ b := if_neg h
def isLo : Role → Prop := fun r => r = .lo
section
variable {C : Cs} {R : Role → Prop} {ρ ρ' : Rho} {H H' : Hp} {t : Tr} {a d b : Addr} {L : List (Addr × Nd)} {o : HO}
theorem fr_loc (h : Fr R ρ H ρ' H') (n : H b = none) : Fr R ρ H ρ' (upd H' b o) := fun x u e m => by
  obtain ⟨h1, h2⟩ := h x u e m
  refine ⟨?_, h2⟩
  rw [upd_ne (ne_of_none e n)]
  exact h1
theorem fr_drop (h : Fr R ρ H ρ' H') (n : H b = none) : Fr R ρ H (drop ρ' b) H' := fun x u e m => by
  obtain ⟨h1, h2⟩ := h x u e m
  exact ⟨h1, (drop_ne (ne_of_none e n)).trans h2⟩
theorem fr_let (r : ρ b = some .lo) : Fr isLo ρ H (drop ρ b) H := fun x u e m => by
  refine ⟨e, drop_ne fun z => ?_⟩
  subst z
  exact m _ r rfl
theorem own_drop (h : Own ρ H) : Own (drop ρ b) H := fun x r e => by
  by_cases z : x = b
  · rw [z, drop_same] at e
    cases e
  · rw [drop_ne z] at e
    exact h x r e
theorem lo_tree : ∀ r, inTree r → ¬ isLo r := fun r h z => by
  have z' : r = .lo := z
  subst z'
  exact h
theorem lo_kept (fr : Fr inTree ρ H ρ' H') (e : H b = some o) (r : ρ b = some .lo) : H' b = some o ∧ ρ' b = some .lo := by
  obtain ⟨h1, h2⟩ := fr b o e (by rw [r]; intro z hz; cases hz; exact fun h => h)
  exact ⟨h1, h2.trans r⟩
end
theorem idx_first {n : Nat} : ∀ {l : List Nat} {j : Nat}, l[j]? = some n → (∀ i : Nat, i < j → l[i]? ≠ some n) → l.idxOf n = j
  | [], j, h, _ => by simp at h
  | a :: r, 0, h, _ => by
    have e : a = n := Option.some.inj h
    subst e
    exact List.idxOf_cons_self
  | a :: r, j + 1, h, k => by
    have c : ¬ a = n := fun z => by
      have := k 0 (by omega)
      exact this (by rw [z]; rfl)
    have ih := idx_first (l := r) (j := j) (by simpa using h) fun i hi => by
      have := k (i + 1) (by omega)
      simpa using this
    rw [List.idxOf_cons, ih]
    have z : (a == n) = false := by simpa using c
    rw [z]
    rfl
end UB
namespace UB
open PySem PySem.Spec PyProof.Rows L2
open Ue03 (Change)
open Mir
section
variable {K : PySem.W.Frag} {A : Ad} {ρ ρ1 : Rho} {H H1 : Hp} {a : Addr} {Q : VK} {E : XK} {s s1 : Se} {r : Res} {l : List Nat}
theorem ret_open (k : Ret K A ρ H a Q E (s.alone r)) (h : s.group.isSome = true) : Rz K A.CR (-9) E H := by
  unfold Se.alone at k
  rw [if_pos h] at k
  exact k
theorem ret_shut (k : Ret K A ρ H a Q E (s.alone r)) (h : s.group = none) : Ret K A ρ H a Q E r := by
  unfold Se.alone at k
  rw [h] at k
  exact k
theorem resl (o : Own ρ1 H1) (hs : SeA A.cs ρ1 H1 s1 a) (f : Fr All ρ H ρ1 H1) (k : ResL A.cs ρ H a Q (s1, l)) : NewL H1 Q l :=
  fun p H' hp s e => k H' ρ1 p (o.same s) (hs.same s) (f.trans (Fr.of_same s)) e (o.free hp)
theorem disp (k : NewL H Q l) {xs : List V} (e : xs = nl l) {p : Addr} (hp : H p = none) : Q (.ref p) (upd H p (.lst xs)) := by
  subst e
  exact k p _ hp (same_new hp) upd_same
theorem NewL.same (k : NewL H Q l) (s : Same H H1) : NewL H1 Q l := fun p H' hp s2 e => k p H' (s.free hp) (s.trans s2) e
/-- a field of the session's own object is stored, the tree as it is -/
theorem se_field {d ta : Addr} {L : List (Addr × Nd)} {gv' : V} {dx : Addr} {c : Nat} {g' : Option (List Change × List Nat)} (hr : ρ a = some .se) (own : Own ρ H) (hA : TrA A.cs ρ H s.tree ta d L)
    (hg : GvA A.cs ρ H gv' g') : Own ρ (upd H a (.ins A.cs.E dx (seF ta c gv'))) ∧ SeA A.cs ρ (upd H a (.ins A.cs.E dx (seF ta c gv'))) ⟨s.tree, c, g'⟩ a ∧ Fr All ρ H ρ (upd H a (.ins A.cs.E dx (seF ta c gv'))) := by
  have fr : Fr (fun r => r = .se) ρ H ρ (upd H a (.ins A.cs.E dx (seF ta c gv'))) := Fr.upd hr rfl
  exact ⟨own.upd, ⟨hr, dx, ta, d, L, gv', upd_same, hA.fr fr (fun r h z => by subst z; exact h), hg.fr fr (by intro z; cases z) (by intro z; cases z)⟩, fr.all⟩
end
theorem one_disp (n : Nat) : [vn n] = nl [n] := rfl
theorem dec_vn {a b : Nat} : decide (vn a = vn b) = decide (a = b) := by
  by_cases c : a = b
  · subst c
    simp
  · have c2 : ¬ (vn a = vn b) := by
      intro z
      unfold vn at z
      injection z with z
      exact c (Int.ofNat.inj z)
    rw [decide_eq_false c2, decide_eq_false c]
theorem fr_let2 {R : Role → Prop} {ρ : Rho} {H : Hp} {b : Addr} {r0 : Role} (r : ρ b = some r0) (hr : R r0) : Fr R ρ H (drop ρ b) H := fun x u e m => by
  refine ⟨e, drop_ne fun z => ?_⟩
  subst z
  exact m _ r hr
theorem chg_at {ρ : Rho} {H : Hp} {a : Addr} {c : Change} (h : ChgA ρ H a c) : ∃ ia, H a = some (.tup [vn c.at_, vn c.out, .ref ia]) ∧ H ia = some (.lst (nl c.in_)) := by
  obtain ⟨ia, _, e, l⟩ := h
  exact ⟨ia, e, l.2⟩
theorem sort_up {l : List Nat} {ns : List Int} (h : l.Pairwise (· < ·)) (p : ns.Perm (l.map fun (n : Nat) => (n : Int))) (o : ns.Pairwise (· ≤ ·)) : ns.map V.int = nl l := by
  have h2 : (l.map fun (n : Nat) => (n : Int)).Pairwise (· ≤ ·) := by
    rw [List.pairwise_map]
    exact h.imp fun h => by omega
  have e := p.eq_of_pairwise (le := (· ≤ ·)) (fun a b _ _ h1 h2 => Int.le_antisymm h1 h2) o h2
  rw [e, ← nl_ints]
theorem sort_down {l : List Nat} {ns : List Int} (h : l.Pairwise (· < ·)) (p : ns.Perm (l.map fun (n : Nat) => (n : Int))) (o : ns.Pairwise (· ≥ ·)) : ns.map V.int = nl l.reverse := by
  have h2 : (l.reverse.map fun (n : Nat) => (n : Int)).Pairwise (· ≥ ·) := by
    rw [List.pairwise_map, List.pairwise_reverse]
    exact h.imp fun h => by show _ ≤ _; omega
  have p2 : ns.Perm (l.reverse.map fun (n : Nat) => (n : Int)) := p.trans ((List.reverse_perm l).symm.map _)
  have e := p2.eq_of_pairwise (le := (· ≥ ·)) (fun a b _ _ h1 h2 => Int.le_antisymm h2 h1) o h2
  rw [e, ← nl_ints]
/-- e.code, e the caught error -/
def tCode (K : PySem.W.Frag) (B a : Addr) (cls : Value) (d : Option Addr) (te : TE) : TE := fun σ H Q => ∃ C, RefCls K B C ∧ tXf a cls d C "code" te σ H Q
theorem pe_code {X : Cx} {a B : Addr} {oe : Obj} {cls : Value} {d : Option Addr} {pn : List (Addr × Obj)} {e : Expr} {te : TE} {pos : Pos} (hz : Zc cls d oe) (hf : ∃ vs, oe.data = .fields vs)
    (he : PE (X.suite a ((a, oe) :: pn)) e te) (hb : attributeBase e "code" X.env (eval e X.env) = eval e X.env := by rfl) : PE (X.suite a ((a, oe) :: pn)) (.Attribute e "code" pos) (tCode X.K B a cls d te) := by
  refine ⟨fun pins s σ H Q I h => ?_⟩
  obtain ⟨C, R, q⟩ := h
  exact (pe_xf R.xf R.no hz hf he hb).run pins s σ H Q I q
theorem seq_fr {K : PySem.W.Frag} {R : Role → Prop} {ρ ρ' : Rho} {H H' : Hp} {a : Addr} {xs : List V} (h : SqL K H a xs) (f : Fr R ρ H ρ' H') (r : ρ a = none) (own : Own ρ H) : SqL K H' a xs ∧ (ρ' a = none ∨ H a = none) := by
  rcases h with (h | ⟨o, h⟩) | h
  · obtain ⟨h1, h2⟩ := f.keep h r
    exact ⟨.inl (.inl h1), .inl h2⟩
  · obtain ⟨h1, h2⟩ := f.keep h r
    exact ⟨.inl (.inr ⟨o, h1⟩), .inl h2⟩
  · cases e : H a with
    | none => exact ⟨.inr h, .inr rfl⟩
    | some o => exact ⟨.inr h, .inl (f.keep e r).2⟩
end UB
namespace UB
open PySem PySem.Spec PyProof.Rows L2
open Ue03 (Change)
open Mir
/-! ### text_after -/
abbrev s_text_after : Stmt := top 12
theorem sc_text_after : FnScope ["text", "change", "position", "removed", "inserted"] ["text", "change"] (defScope s_text_after) := ⟨rfl, rfl, rfl, by decide +kernel, rfl, by decide +kernel, by decide +kernel⟩
theorem ok_text_after {P : Program} {w : World} {K : PySem.W.Frag} {mg : Str → Option Value} {base : Heap} {A : Ad} {f : Addr} {fd : FuncData} (F : Fun K "text_after" "text_after" s_text_after f fd) (T : Txt K mg A)
    : FnOk P w K mg base CX0 1 f fd ["text", "change"] (sp_text_after K A) := by
  have sc := sc_text_after
  refine F.ok sc (fun vs H Q E h => sp_text_after_len h) (fun cdv AA outer s H vs Q E hr h => ?_)
  refine ⟨_, (pss_cons (ps_asg (pv 1) (pg_tup rfl (pgs_cons (pg_name (i := 2) sc.nd rfl (Or.inl rfl)) (pgs_cons (pg_name (i := 3) sc.nd rfl (Or.inl rfl)) (pgs_cons (pg_name (i := 4) sc.nd rfl (Or.inl rfl)) pgs_nil)))))
      (pss_one (ps_ret (pe_op op_cat (pe_op op_cat (pe_slice sl_list (pv 0) po_none (po_some (pv 2))) (pv 4)) (pe_slice sl_list (pv 0) (po_some (pe_op op_add (pv 2) (pv 3))) po_none))))), ?_⟩
  obtain ⟨ta, ca, ia, l, p, o, wd, rfl, hl, hc, hi, hz, k⟩ := h
  refine ⟨_, rfl, ca, _, rfl, SqT.of hc, rfl, _, _, rfl, _, _, rfl, _, _, rfl, rfl, ?_⟩
  refine ⟨_, rfl, _, rfl, _, rfl, ta, _, rfl, SqL.of hl, fun q1 h1 => ?_⟩
  rw [cut_to]
  have s1 : Same H (upd H q1 (.lst (nl (l.take p)))) := same_new h1
  refine ⟨_, rfl, q1, ia, _, _, rfl, rfl, upd_same, s1 _ _ hi, ?_, fun q2 h2 => ?_⟩
  · rw [nl_len, nl_len, List.length_take]
    exact size_le (by omega)
  rw [← nl_app]
  have s2 := s1.trans (same_new (o := .lst (nl (l.take p ++ wd))) h2)
  refine ⟨_, rfl, _, rfl, _, rfl, _, _, rfl, rfl, _, rfl, ta, _, rfl, SqL.of (s2 _ _ hl), fun q3 h3 => ?_⟩
  rw [vn_cut, cut_from]
  have s3 := s2.trans (same_new (o := .lst (nl (l.drop (p + o)))) h3)
  have e2 := same_new (o := .lst (nl (l.drop (p + o)))) h3 _ _ (upd_same (H := upd H q1 (.lst (nl (l.take p)))) (a := q2) (o := .lst (nl (l.take p ++ wd))))
  refine ⟨q2, q3, _, _, rfl, rfl, e2, upd_same, ?_, fun q4 h4 => ?_⟩
  · rw [nl_len, nl_len, List.length_append, List.length_take, List.length_drop]
    exact size_le (by omega)
  rw [← nl_app, List.append_assoc]
  have s4 := s3.trans (same_new (o := .lst (nl (l.take p ++ (wd ++ l.drop (p + o))))) h4)
  exact k q4 _ (s3.free h4) s4 upd_same
end UB
namespace UB
open PySem PySem.Spec PyProof.Rows L2
open Ue03 (Change)
open Mir
/-! ### region_start_after -/
abbrev s_region_start_after : Stmt := top 13
theorem sc_region_start_after : FnScope ["start", "length", "change", "position", "removed", "inserted"] ["start", "length", "change"] (defScope s_region_start_after) := ⟨rfl, rfl, rfl, by decide +kernel, rfl, by decide +kernel, by decide +kernel⟩
theorem ok_region_start_after {P : Program} {w : World} {K : PySem.W.Frag} {mg : Str → Option Value} {base : Heap} {A : Ad} {f : Addr} {fd : FuncData} (F : Fun K "region_start_after" "region_start_after" s_region_start_after f fd) (T : Txt K mg A)
    (r_RegionOverlapped : RaiseC P w K mg base A.CR "RegionOverlapped" (-8))
    : FnOk P w K mg base (L2.CX P w) 4 f fd ["start", "length", "change"] (sp_region_start_after K A) := by
  have sc := sc_region_start_after
  refine F.okX sc (fun vs H Q E h => sp_region_start_after_len h) (fun cdv AA outer s H vs Q E hr h => ?_)
  have tk0 : Takes (cxOf (L2.CX P w) P w K mg base ["start", "length", "change", "position", "removed", "inserted"] "region_start_after" (defScope s_region_start_after) f cdv AA outer s H E) (fun cls d _ H => E cls d H) := takes_of rfl rfl rfl rfl
  refine ⟨_, (pss_cons (ps_asg (pv 2) (pg_tup rfl (pgs_cons (pg_name (i := 3) sc.nd rfl (Or.inl rfl)) (pgs_cons (pg_name (i := 4) sc.nd rfl (Or.inl rfl)) (pgs_cons (pg_name (i := 5) sc.nd rfl (Or.inl rfl)) pgs_nil)))))
      (pss_cons (ps_if (pt_cmpR op_ge (pv 3) (pe_op op_add (pv 0) (pv 1)) (nomark _)) (pss_one (ps_ret (pv 0))) pss_nil)
      (pss_cons (ps_if (pt_cmpR op_le (pe_op op_add (pv 3) (pv 4)) (pv 0) (nomark _)) (pss_one (ps_ret (pe_op op_sub (pe_op op_add (pv 0) (pe_callB call_len_seq (by rfl) T.len PySem.boot_len (pa_cons (pv 5) pa_nil))) (pv 4)))) pss_nil)
      (pss_one (ps_rz r_RegionOverlapped rfl hr (by decide) tk0))))), ?_⟩
  obtain ⟨a, len, ca, ia, c, rfl, hc, hi, k⟩ := h
  refine ⟨_, rfl, ca, _, rfl, SqT.of hc, rfl, _, _, rfl, _, _, rfl, _, _, rfl, rfl, ?_⟩
  refine ⟨_, rfl, _, rfl, _, rfl, _, _, rfl, rfl, _, _, rfl, rfl, _, rfl, ?_⟩
  unfold shift at k
  rw [Option.bind_some] at k
  by_cases c1 : a + len ≤ c.at_
  · rw [if_pos c1] at k
    refine if_true_of (decide_eq_true (by omega)) ?_
    exact ⟨_, rfl, k⟩
  rw [if_neg c1] at k
  refine if_false_of (decide_eq_false (by omega)) ?_
  refine ⟨_, rfl, _, rfl, _, _, rfl, rfl, _, rfl, _, _, rfl, rfl, _, rfl, ?_⟩
  by_cases c2 : c.at_ + c.out ≤ a
  · rw [if_pos c2] at k
    refine if_true_of (decide_eq_true (by omega)) ?_
    refine ⟨_, rfl, _, rfl, ia, _, rfl, .inl (SqL.of hi), _, _, rfl, rfl, _, rfl, _, _, rfl, rfl, ?_⟩
    show Q (V.int ((a : Int) + ((nl c.in_).length : Int) - (c.out : Int))) H
    rw [nl_len]
    have e : V.int ((a : Int) + (c.in_.length : Int) - (c.out : Int)) = vn (a + c.in_.length - c.out) := by
      unfold vn
      congr 1
      omega
    rw [e]
    exact k
  · rw [if_neg c2] at k
    refine if_false_of (decide_eq_false (by omega)) ?_
    exact k
end UB
namespace UB
open PySem PySem.Spec PyProof.Rows L2
open Ue03 (Change)
open Mir
/-! ### origins_after -/
abbrev s_origins_after : Stmt := top 14
theorem sc_origins_after : FnScope ["origins", "change", "number", "position", "removed", "inserted"] ["origins", "change", "number"] (defScope s_origins_after) := ⟨rfl, rfl, rfl, by decide +kernel, rfl, by decide +kernel, by decide +kernel⟩
theorem ok_origins_after {P : Program} {w : World} {K : PySem.W.Frag} {mg : Str → Option Value} {base : Heap} {A : Ad} {f : Addr} {fd : FuncData} (F : Fun K "origins_after" "origins_after" s_origins_after f fd) (T : Txt K mg A)
    (m_text_after : DefX P w K mg base CX0 1 "text_after" ["text", "change"] (sp_text_after K A))
    : FnOk P w K mg base CX0 2 f fd ["origins", "change", "number"] (sp_origins_after K A) := by
  have sc := sc_origins_after
  refine F.ok sc (fun vs H Q E h => sp_origins_after_len h) (fun cdv AA outer s H vs Q E hr h => ?_)
  refine ⟨_, (pss_cons (ps_asg (pv 1) (pg_tup rfl (pgs_cons (pg_name (i := 3) sc.nd rfl (Or.inl rfl)) (pgs_cons (pg_name (i := 4) sc.nd rfl (Or.inl rfl)) (pgs_cons (pg_name (i := 5) sc.nd rfl (Or.inl rfl)) pgs_nil)))))
      (pss_one (ps_ret (pe_f m_text_after hr (by decide) pass0 (pa_cons (pv 0) (pa_cons (pe_tup (pa_cons (pv 3) (pa_cons (pv 4) (pa_cons (pe_op op_rep (pe_lst (pa_cons (pv 2) pa_nil)) (pe_callB call_len_seq (by rfl) T.len PySem.boot_len (pa_cons (pv 5) pa_nil))) pa_nil)))) pa_nil)))))), ?_⟩
  obtain ⟨oa, ca, ia, n, l, c, rfl, ho, hc, hi, hz, hz2, k⟩ := h
  refine ⟨_, rfl, ca, _, rfl, SqT.of hc, rfl, _, _, rfl, _, _, rfl, _, _, rfl, rfl, ?_⟩
  refine ⟨_, rfl, _, rfl, _, rfl, _, rfl, (by show 1 ≤ sizeLine; decide), fun q1 h1 => ?_⟩
  have s1 : Same H (upd H q1 (.lst [vn n])) := same_new h1
  refine ⟨_, rfl, ia, _, rfl, .inl (SqL.of (s1 _ _ hi)), q1, _, _, rfl, rfl, upd_same, ?_, ?_, ?_, fun q2 h2 => ?_⟩
  · rw [nl_len]; omega
  · rw [nl_len]; omega
  · rw [nl_len]
    exact size_le (by simp; omega)
  rw [rep_one]
  have s2 := s1.trans (same_new (o := .lst (nl (List.replicate c.in_.length n))) h2)
  refine ⟨(by show 3 ≤ sizeLine; decide), fun q3 h3 => ?_⟩
  have s3 := s2.trans (same_new (o := .tup [vn c.at_, vn c.out, .ref q2]) h3)
  refine ⟨oa, q3, q2, l, c.at_, c.out, List.replicate c.in_.length n, rfl, s3 _ _ ho, upd_same, same_new h3 _ _ upd_same, ?_, fun p H' hp hs he => ?_⟩
  · rw [List.length_replicate]; omega
  · exact k p H' (s3.free hp) (s3.trans hs) he
end UB
namespace UB
open PySem PySem.Spec PyProof.Rows L2
open Ue03 (Change)
open Mir
/-! ### State.__init__ -/
abbrev s_State_init : Stmt := inClass (top 16) 0
theorem sc_State_init : FnScope ["self", "parent", "time", "changes", "text"] ["self", "parent", "time", "changes", "text"] (defScope s_State_init) := ⟨rfl, rfl, rfl, by decide +kernel, rfl, by decide +kernel, by decide +kernel⟩
theorem ok_State_init {P : Program} {w : World} {K : PySem.W.Frag} {mg : Str → Option Value} {base : Heap} {A : Ad} {f : Addr} {fd : FuncData} (F : Fun K "__init__" "State.__init__" s_State_init f fd) (T : Txt K mg A)
    : FnOk P w K mg base CX0 1 f fd ["self", "parent", "time", "changes", "text"] (sp_State_init K A) := by
  have sc := sc_State_init
  refine F.ok sc (fun vs H Q E h => sp_State_init_len h) (fun cdv AA outer s H vs Q E hr h => ?_)
  refine ⟨_, (pss_cons (ps_fld (pv 0) (pv 1) rfl)
      (pss_cons (ps_fld (pv 0) (pv 2) rfl)
      (pss_cons (ps_fld (pv 0) (pv 3) rfl)
      (pss_cons (ps_fld (pv 0) (pv 4) rfl)
      (pss_cons (ps_fld (pv 0) pe_int rfl)
      (pss_cons (ps_fld (pv 0) (pe_lst pa_nil) rfl)
      (pss_one (ps_fld (pv 0) pe_non rfl)))))))), ?_⟩
  obtain ⟨p, dx, ca, ta, pv', n, rfl, hp, k⟩ := h
  refine ⟨_, rfl, _, rfl, p, A.cs.S, dx, [], rfl, hp, T.clS, T.nS_parent, by decide, ?_⟩
  refine ⟨_, rfl, _, rfl, p, A.cs.S, dx, _, rfl, upd_same, T.clS, T.nS_time, by show 1 < 1000; decide, ?_⟩
  refine ⟨_, rfl, _, rfl, p, A.cs.S, dx, _, rfl, upd_same, T.clS, T.nS_changes, by show 2 < 1000; decide, ?_⟩
  refine ⟨_, rfl, _, rfl, p, A.cs.S, dx, _, rfl, upd_same, T.clS, T.nS_text, by show 3 < 1000; decide, ?_⟩
  refine ⟨_, rfl, p, A.cs.S, dx, _, rfl, upd_same, T.clS, T.nS_kept, by show 4 < 1000; decide, ?_⟩
  refine ⟨(by show 0 ≤ sizeLine; decide), fun ha h1 => ?_⟩
  have hpa : p ≠ ha := ne_of_none upd_same h1
  refine ⟨_, rfl, p, A.cs.S, dx, _, rfl, (by rw [upd_ne hpa]; exact upd_same), T.clS, T.nS_children, by show 5 < 1000; decide, ?_⟩
  refine ⟨_, rfl, p, A.cs.S, dx, _, rfl, upd_same, T.clS, T.nS_visited, by show 6 < 1000; decide, ?_⟩
  have free : H ha = none := by
    rw [upd_ne (Ne.symm hpa), upd_ne (Ne.symm hpa), upd_ne (Ne.symm hpa), upd_ne (Ne.symm hpa), upd_ne (Ne.symm hpa)] at h1
    exact h1
  refine k _ ha free ?_ ?_ fun b o e hb => ?_
  · rw [upd_same]
    exact congrArg (fun q => some (HO.ins A.cs.S dx q)) (st_new pv' (vn n) (.ref ca) (.ref ta) (.ref ha))
  · rw [upd_ne (Ne.symm hpa), upd_ne (Ne.symm hpa), upd_same]
  · have h2 : b ≠ ha := ne_of_none e free
    rw [upd_ne hb, upd_ne hb, upd_ne h2, upd_ne hb, upd_ne hb, upd_ne hb, upd_ne hb, upd_ne hb]
    exact e
end UB
namespace UB
open PySem PySem.Spec PyProof.Rows L2
open Ue03 (Change)
open Mir
/-! ### State.preferred_child -/
abbrev s_State_preferred_child : Stmt := inClass (top 16) 1
theorem sc_State_preferred_child : FnScope ["self"] ["self"] (defScope s_State_preferred_child) := ⟨rfl, rfl, rfl, by decide +kernel, rfl, by decide +kernel, by decide +kernel⟩
theorem ok_State_preferred_child {P : Program} {w : World} {K : PySem.W.Frag} {mg : Str → Option Value} {base : Heap} {A : Ad} {f : Addr} {fd : FuncData} (F : Fun K "preferred_child" "State.preferred_child" s_State_preferred_child f fd) (T : Txt K mg A)
    : FnOk P w K mg base CX0 1 f fd ["self"] (sp_State_preferred_child K A) := by
  have sc := sc_State_preferred_child
  refine F.ok sc (fun vs H Q E h => sp_State_preferred_child_len h) (fun cdv AA outer s H vs Q E hr h => ?_)
  refine ⟨_, (pss_cons (ps_if (pt_cmpR op_in_seq (pe_fld (pv 0) rfl) (pe_fld (pv 0) rfl) (by rfl)) (pss_one (ps_ret (pe_fld (pv 0) rfl))) pss_nil)
      (pss_one (ps_ret (pe_callB (cr_max rfl) (by rfl) T.max (by decide +kernel) (pa_cons (pe_fld (pv 0) rfl) pa_nil))))), ?_⟩
  obtain ⟨a, ρ, x, rfl, hx, hne, hs, k⟩ := h
  obtain ⟨r, dx, ca, ta, ha, as, e, _, _, rh, eh⟩ := hx
  refine ⟨_, rfl, a, _, dx, _, _, rfl, e, T.clS, T.nS_visited, st_visited, _, rfl, a, _, dx, _, _, rfl, e, T.clS, T.nS_children, st_children, ha, _, rfl, .inl (SqL.of eh), flat_vo _, flat_nl _, _, rfl, ?_⟩
  rw [if_neg Bool.false_ne_true, in_vo]
  have last : ∀ m : Int, m ∈ (x.children.map fun (n : Nat) => (n : Int)) → (∀ y, y ∈ (x.children.map fun (n : Nat) => (n : Int)) → y ≤ m) → V.int m = vn (x.children.getLastD 0) := by
    intro m hm hle
    obtain ⟨n, hn, rfl⟩ := ints_mem hm
    rw [last_of hs hn fun y hy => Int.ofNat_le.mp (hle _ (List.mem_map.mpr ⟨y, hy, rfl⟩))]
    rfl
  have rest : x.liked = x.children.getLastD 0 → (tRet (tCB (rMax K) (tCons (tFld K (tVar 0) "children") tNil))) { nx := fun _ H' => Q .non H', rt := Q } (start ["self"] [.ref a]) H := by
    intro el
    refine ⟨_, rfl, a, _, dx, _, _, rfl, e, T.clS, T.nS_children, st_children, ha, (x.children.map fun (n : Nat) => (n : Int)), rfl, ?_, ?_, fun m hm hle => ?_⟩
    · exact SqL.of (by rw [← nl_ints]; exact eh)
    · rw [List.length_map]
      exact List.length_pos_iff.mpr hne
    · show Q (V.int m) H
      rw [last m hm hle, ← el]
      exact k
  unfold Nd.liked at rest k
  cases q : x.visited with
  | none =>
    rw [q] at rest
    exact if_false_of rfl (rest rfl)
  | some v =>
    rw [q] at rest k
    dsimp only at rest k ⊢
    by_cases c : v ∈ x.children
    · rw [if_pos c] at k
      refine if_true_of (decide_eq_true c) ?_
      refine ⟨_, rfl, a, _, dx, _, _, rfl, e, T.clS, T.nS_visited, st_visited, ?_⟩
      rw [q]
      exact k
    · refine if_false_of (decide_eq_false c) (rest (if_neg c))
end UB
namespace UB
open PySem PySem.Spec PyProof.Rows L2
open Ue03 (Change)
open Mir
/-! ### Tree.__init__ -/
abbrev s_Tree_init : Stmt := inClass (top 17) 0
theorem sc_Tree_init : FnScope ["self", "text"] ["self", "text"] (defScope s_Tree_init) := ⟨rfl, rfl, rfl, by decide +kernel, rfl, by decide +kernel, by decide +kernel⟩
theorem ok_Tree_init {P : Program} {w : World} {K : PySem.W.Frag} {mg : Str → Option Value} {base : Heap} {A : Ad} {f : Addr} {fd : FuncData} (F : Fun K "__init__" "Tree.__init__" s_Tree_init f fd) (T : Txt K mg A)
    (m_State_init : MakX P w K mg base CX0 1 "State" A.cs.S ["self", "parent", "time", "changes", "text"] (sp_State_init K A))
    : FnOk P w K mg base CX0 3 f fd ["self", "text"] (sp_Tree_init K A) := by
  have sc := sc_Tree_init
  refine F.ok sc (fun vs H Q E h => sp_Tree_init_len h) (fun cdv AA outer s H vs Q E hr h => ?_)
  refine ⟨_, (pss_cons (ps_fld (pv 0) (pe_disp (pps_cons pe_int (pe_n m_State_init hr (by decide) pass0 (pa_cons pe_non (pa_cons pe_int (pa_cons (pe_lst pa_nil) (pa_cons (pv 1) pa_nil))))) pps_nil) (by rfl) (by rfl) (fun z => by cases z) (by decide)) rfl)
      (pss_cons (ps_fld (pv 0) pe_int rfl)
      (pss_one (ps_fld (pv 0) pe_int rfl)))), ?_⟩
  obtain ⟨a, dx, ta, ρ, l, rfl, ha, own, ra, ht, k⟩ := h
  refine fun p hp => ⟨(by show 0 ≤ sizeLine; decide), fun la hla => ⟨_, rfl, fun x dxs hx hdx hne => ⟨x, dxs, la, ta, .non, 0, rfl, upd_same, fun H1 hh f1 f2 f3 f4 => ⟨rfl, ?_⟩⟩⟩⟩
  have s0 : Same H (upd H p (.dK [])) := same_new hp
  have s1 := s0.trans (same_new (o := .lst []) hla)
  have s2 := s1.trans (same_new (o := .own x) hdx)
  have hx2 : upd (upd (upd H p (.dK [])) la (.lst [])) dxs (.own x) x = none := by
    rw [upd_ne (Ne.symm hne)]
    exact hx
  have s3 := s2.trans (same_new (o := .ins A.cs.S dxs []) hx2)
  have ex := s2.free hx2
  have up : ∀ b o, H b = some o → H1 b = some o := fun b o e => f4 b o (s3 b o e) (ne_of_none e ex)
  have hpx : p ≠ x := ne_of_none (same_new hdx _ _ (same_new hla _ _ (upd_same (H := H) (a := p) (o := .dK [])))) hx2
  have hlx : la ≠ x := ne_of_none (same_new hdx _ _ (upd_same (a := la) (o := .lst []))) hx2
  have e1p : H1 p = some (.dK []) := f4 _ _ (by rw [upd_ne hpx]; exact same_new hdx _ _ (same_new hla _ _ upd_same)) hpx
  have e1l : H1 la = some (.lst []) := f4 _ _ (by rw [upd_ne hlx]; exact same_new hdx _ _ upd_same) hlx
  have nh : H hh = none := s3.free f1
  have nla : H la = none := s0.free hla
  have hap : a ≠ p := ne_of_none ha hp
  have hal : a ≠ la := ne_of_none ha nla
  have hax : a ≠ x := ne_of_none ha ex
  have hahh : a ≠ hh := ne_of_none ha nh
  have hph : p ≠ hh := fun z => by rw [z, f3] at e1p; cases e1p
  have hxh : x ≠ hh := fun z => by rw [z, f3] at f2; cases f2
  have hlh : la ≠ hh := fun z => by
    have : upd (upd (upd (upd H p (.dK [])) la (.lst [])) dxs (.own x)) x (.ins A.cs.S dxs []) la = some (.lst []) := by
      rw [upd_ne hlx]
      exact same_new hdx _ _ upd_same
    rw [← z, this] at f1
    cases f1
  refine ⟨e1p, [(Sum.inl 0, .ref x)], rfl, (by show 1 ≤ 15; decide), ?_⟩
  refine ⟨_, rfl, a, _, dx, _, rfl, (by rw [upd_ne hap]; exact up _ _ ha), T.clT, T.nT_states, by decide, ?_⟩
  refine ⟨_, rfl, a, _, dx, _, rfl, upd_same, T.clT, T.nT_current, by show 1 < 1000; decide, ?_⟩
  refine ⟨_, rfl, a, _, dx, _, rfl, upd_same, T.clT, T.nT_next, by show 2 < 1000; decide, ?_⟩
  rw [upd_upd, upd_upd]
  have eo := tr_new (.ref p) (.int 0) (.int 1)
  have rp := own.free hp
  have rx := own.free ex
  have rh := own.free nh
  have rl := own.free nla
  have em : mergeK [] [((Sum.inl 0 : Key), V.ref x)] = [(Sum.inl 0, V.ref x)] := rfl
  refine k _ (give (give (give (give ρ a .tr) p .di) x (.st 0)) hh (.ch 0)) ?_ ⟨p, [(x, Nd.root l)], ?_⟩ ?_
  · intro b r e
    by_cases c1 : b = a
    · subst c1
      exact ⟨_, upd_same⟩
    · rw [upd_ne c1]
      by_cases c2 : b = p
      · subst c2
        exact ⟨_, upd_same⟩
      · rw [upd_ne c2]
        by_cases c3 : b = hh
        · subst c3
          exact ⟨_, f3⟩
        · rw [give_ne c3] at e
          by_cases c4 : b = x
          · subst c4
            exact ⟨_, f2⟩
          · rw [give_ne c4, give_ne c2, give_ne c1] at e
            obtain ⟨o, ho⟩ := own b r e
            exact ⟨o, up b o ho⟩
  · refine ⟨?_, ⟨dx, ?_⟩, ?_, ?_, rfl, fun q hq => ?_⟩
    · rw [give_ne hahh, give_ne hax, give_ne hap, give_same]
    · rw [upd_same]
      exact congrArg (fun q => some (HO.ins A.cs.T dx q)) eo
    · rw [give_ne hph, give_ne hpx, give_same]
    · rw [upd_ne (Ne.symm hap), upd_same]
      rfl
    · rw [List.mem_singleton.mp hq]
      have far : ∀ {b : Addr}, b ≠ a → b ≠ p → b ≠ x → b ≠ hh → give (give (give (give ρ a .tr) p .di) x (.st 0)) hh (.ch 0) b = ρ b := fun h1 h2 h3 h4 => by
        rw [give_ne h4, give_ne h3, give_ne h2, give_ne h1]
      have hla_p : la ≠ p := fun z => by
        rw [z] at hla
        rw [upd_same] at hla
        cases hla
      have hta_a : ta ≠ a := fun z => by
        have := ht.2
        rw [z, ha] at this
        cases this
      refine ⟨?_, dxs, la, ta, hh, [], ?_, ⟨?_, ?_, trivial⟩, ⟨?_, ?_⟩, ?_, ?_⟩
      · rw [give_ne hxh, give_same]
        rfl
      · rw [upd_ne (Ne.symm hax), upd_ne (Ne.symm hpx)]
        exact f2
      · rw [far (Ne.symm hal) hla_p hlx hlh]
        exact rl
      · rw [upd_ne (Ne.symm hal), upd_ne hla_p]
        exact e1l
      · rw [far hta_a (ne_of_none ht.2 hp) (ne_of_none ht.2 ex) (ne_of_none ht.2 nh)]
        exact ht.1
      · rw [upd_ne hta_a, upd_ne (ne_of_none ht.2 hp)]
        exact up _ _ ht.2
      · rw [give_same]
        rfl
      · rw [upd_ne (Ne.symm hahh), upd_ne (Ne.symm hph)]
        exact f3
  · intro b o e hb
    refine ⟨?_, ?_⟩
    · rw [upd_ne hb, upd_ne (ne_of_none e hp)]
      exact up b o e
    · rw [give_ne (ne_of_none e nh), give_ne (ne_of_none e ex), give_ne (ne_of_none e hp), give_ne hb]
end UB
namespace UB
open PySem PySem.Spec PyProof.Rows L2
open Ue03 (Change)
open Mir
/-! ### Tree.find_state -/
abbrev s_Tree_find_state : Stmt := inClass (top 17) 1
theorem sc_Tree_find_state : FnScope ["self", "number"] ["self", "number"] (defScope s_Tree_find_state) := ⟨rfl, rfl, rfl, by decide +kernel, rfl, by decide +kernel, by decide +kernel⟩
theorem ok_Tree_find_state {P : Program} {w : World} {K : PySem.W.Frag} {mg : Str → Option Value} {base : Heap} {A : Ad} {f : Addr} {fd : FuncData} (F : Fun K "find_state" "Tree.find_state" s_Tree_find_state f fd) (T : Txt K mg A)
    (r_NoSuchState : RaiseC P w K mg base A.CR "NoSuchState" (-2))
    : FnOk P w K mg base (L2.CX P w) 4 f fd ["self", "number"] (sp_Tree_find_state K A) := by
  have sc := sc_Tree_find_state
  refine F.okX sc (fun vs H Q E h => sp_Tree_find_state_len h) (fun cdv AA outer s H vs Q E hr h => ?_)
  have tk0 : Takes (cxOf (L2.CX P w) P w K mg base ["self", "number"] "Tree.find_state" (defScope s_Tree_find_state) f cdv AA outer s H E) (fun cls d _ H => E cls d H) := takes_of rfl rfl rfl rfl
  refine ⟨_, (pss_cons (ps_if (pt_cmp (pc_dnotin (hu_of hr) (pv 1) (pe_fld (pv 0) rfl))) (pss_one (ps_rz r_NoSuchState rfl hr (by decide) tk0)) pss_nil)
      (pss_one (ps_ret (pe_dget (hu_of hr) (pe_fld (pv 0) rfl) (pv 1) (fun _ _ => rfl))))), ?_⟩
  obtain ⟨a, d, ρ, t, L, n, rfl, hA, kS, kN⟩ := h
  obtain ⟨dx, hT⟩ := hA.obj
  cases q : t.find n with
  | none =>
    refine ⟨_, rfl, _, rfl, a, _, dx, _, _, rfl, hT, T.clT, T.nT_states, tr_states, d, _, rfl, tr_none hA q, _, rfl, if_true_of rfl ?_⟩
    exact kN q
  | some x =>
    obtain ⟨sa, m, g, _⟩ := tr_some hA q
    refine ⟨_, rfl, _, rfl, a, _, dx, _, _, rfl, hT, T.clT, T.nT_states, tr_states, d, _, rfl, g, _, rfl, if_false_of rfl ?_⟩
    exact ⟨_, rfl, a, _, dx, _, _, rfl, hT, T.clT, T.nT_states, tr_states, _, rfl, d, _, rfl, g, kS x sa q m⟩
end UB
namespace UB
open PySem PySem.Spec PyProof.Rows L2
open Ue03 (Change)
open Mir
/-! ### Tree.current_state -/
abbrev s_Tree_current_state : Stmt := inClass (top 17) 2
theorem sc_Tree_current_state : FnScope ["self"] ["self"] (defScope s_Tree_current_state) := ⟨rfl, rfl, rfl, by decide +kernel, rfl, by decide +kernel, by decide +kernel⟩
theorem ok_Tree_current_state {P : Program} {w : World} {K : PySem.W.Frag} {mg : Str → Option Value} {base : Heap} {A : Ad} {f : Addr} {fd : FuncData} (F : Fun K "current_state" "Tree.current_state" s_Tree_current_state f fd) (T : Txt K mg A)
    : FnOk P w K mg base CX0 1 f fd ["self"] (sp_Tree_current_state K A) := by
  have sc := sc_Tree_current_state
  refine F.ok sc (fun vs H Q E h => sp_Tree_current_state_len h) (fun cdv AA outer s H vs Q E hr h => ?_)
  refine ⟨_, (pss_one (ps_ret (pe_dget (hu_of hr) (pe_fld (pv 0) rfl) (pe_fld (pv 0) rfl) (fun _ _ => rfl)))), ?_⟩
  obtain ⟨a, d, ρ, t, L, x, rfl, hA, q, k⟩ := h
  obtain ⟨dx, hT⟩ := hA.obj
  obtain ⟨sa, m, g, _⟩ := tr_some hA q
  exact ⟨_, rfl, a, _, dx, _, _, rfl, hT, T.clT, T.nT_states, tr_states, _, rfl, a, _, dx, _, _, rfl, hT, T.clT, T.nT_current, tr_current, d, _, rfl, g, k sa m⟩
end UB
namespace UB
open PySem PySem.Spec PyProof.Rows L2
open Ue03 (Change)
open Mir
/-! ### Tree.root -/
abbrev s_Tree_root : Stmt := inClass (top 17) 3
theorem sc_Tree_root : FnScope ["self"] ["self"] (defScope s_Tree_root) := ⟨rfl, rfl, rfl, by decide +kernel, rfl, by decide +kernel, by decide +kernel⟩
theorem ok_Tree_root {P : Program} {w : World} {K : PySem.W.Frag} {mg : Str → Option Value} {base : Heap} {A : Ad} {f : Addr} {fd : FuncData} (F : Fun K "root" "Tree.root" s_Tree_root f fd) (T : Txt K mg A)
    : FnOk P w K mg base CX0 1 f fd ["self"] (sp_Tree_root K A) := by
  have sc := sc_Tree_root
  refine F.ok sc (fun vs H Q E h => sp_Tree_root_len h) (fun cdv AA outer s H vs Q E hr h => ?_)
  refine ⟨_, (pss_one (ps_ret (pe_callB (cr_minK rfl) (by rfl) T.min (by decide +kernel) (pa_cons (pe_fld (pv 0) rfl) pa_nil)))), ?_⟩
  obtain ⟨a, d, ρ, t, L, rfl, hA, w, k⟩ := h
  obtain ⟨dx, hT⟩ := hA.obj
  have nums : (L.map fun p => p.2.number) = t.nodes.map fun x => x.number := by
    rw [← hA.nodes, List.map_map]
    rfl
  have ne : t.nodes ≠ [] := by
    obtain ⟨x, r, e, _⟩ := w.root
    rw [e]
    exact List.cons_ne_nil _ _
  refine ⟨_, rfl, a, _, dx, _, _, rfl, hT, T.clT, T.nT_states, tr_states, d, _, (L.map fun p => ((p.2.number : Nat) : Int)), rfl, hA.dict, kv_keys L, ?_, fun m hm hle => ?_⟩
  · intro z
    apply ne
    rw [← hA.nodes]
    rw [List.map_eq_nil_iff] at z ⊢
    exact z
  · obtain ⟨p, hp, rfl⟩ := List.mem_map.mp hm
    have h1 : p.2.number ∈ t.nodes.map fun x => x.number := by
      rw [← nums]
      exact List.mem_map.mpr ⟨p, hp, rfl⟩
    have h2 := head_of w.sorted h1 fun y hy => by
      rw [← nums] at hy
      obtain ⟨q, hq, rfl⟩ := List.mem_map.mp hy
      exact Int.ofNat_le.mp (hle _ (List.mem_map.mpr ⟨q, hq, rfl⟩))
    have h3 : t.root = p.2.number := by
      unfold Tr.root
      rw [List.headD_eq_head?_getD, h2]
      rfl
    show Q (vn p.2.number) H
    rw [← h3]
    exact k
end UB
namespace UB
open PySem PySem.Spec PyProof.Rows L2
open Ue03 (Change)
open Mir
/-! ### Tree.leaves -/
abbrev s_Tree_leaves : Stmt := inClass (top 17) 4
theorem sc_Tree_leaves : FnScope ["self", "number", "state"] ["self"] (defScope s_Tree_leaves) := ⟨rfl, rfl, rfl, by decide +kernel, rfl, by decide +kernel, by decide +kernel⟩
theorem ok_Tree_leaves {P : Program} {w : World} {K : PySem.W.Frag} {mg : Str → Option Value} {base : Heap} {A : Ad} {f : Addr} {fd : FuncData} (F : Fun K "leaves" "Tree.leaves" s_Tree_leaves f fd) (T : Txt K mg A)
    : FnOk P w K mg base CX0 1 f fd ["self"] (sp_Tree_leaves K A) := by
  have sc := sc_Tree_leaves
  refine F.ok sc (fun vs H Q E h => sp_Tree_leaves_len h) (fun cdv AA outer s H vs Q E hr h => ?_)
  refine ⟨_, (pss_one (ps_ret (pe_lock (pe_lc (own := [("number", 1), ("state", 2)]) (g := gTup K 2 (gCons (gName 1) (gCons (gName 2) gNil))) (tt := tNot (fun σ H Q => tFld K (tVar 2) "children" σ H fun x H1 => ∃ k, TruV K x H1 k ∧ Q k H1)) rfl sc.nd (pi_items (pe_fld (pv 0) rfl)) (blkOk_by (own := [("number", 1), ("state", 2)]) (N := ["self", "number", "state"]) (sc := defScope s_Tree_leaves) (by decide +kernel)) (fun _ _ _ _ _ => by exact (pg_tup rfl (pgs_cons (pg_name (i := 1) sc.nd rfl (Or.inl rfl)) (pgs_cons (pg_name (i := 2) sc.nd rfl (Or.inl rfl)) pgs_nil)))) (fun _ _ _ _ _ => by exact (pts_one (pt_not (by exact (pt_truth (by exact (pe_fld (pv 2) rfl)) (by intro _; rfl)))))) (fun _ _ _ _ _ => by exact (pv 1)))))), ?_⟩
  obtain ⟨a, d, ρ, t, L, rfl, tA, k⟩ := h
  obtain ⟨own, hA, w⟩ := tA
  obtain ⟨dx, hT⟩ := hA.obj
  have had : a ≠ d := fun z => by
    have := hA.dict
    rw [← z, hT] at this
    cases this
  have hlen : L.length ≤ 100 := by
    have := w.count
    rw [← hA.nodes, List.length_map] at this
    exact this
  refine ⟨d, _, hA.dict, trivial, fun od => ?_⟩
  have st0 : ∀ b o, H b = some o → b ≠ d → upd H d (.frz od (.dK (L.map kvOf))) b = some o := fun b o e hb => by
    rw [upd_ne hb]
    exact e
  refine ⟨_, rfl, a, _, dx, _, _, rfl, st0 _ _ hT had, T.clT, T.nT_states, tr_states, d, od, _, rfl, upd_same, fun D hD => ?_⟩
  have hDd : D ≠ d := fun z => by
    rw [z, upd_same] at hD
    cases hD
  have hD0 : H D = none := by
    rw [upd_ne hDd] at hD
    exact hD
  refine lc_it walk_items (fun i Hc => (∀ b o, H b = some o → b ≠ d → Hc b = some o) ∧ Hc d = some (.frz od (.dK (L.map kvOf))) ∧ Hc D = some (.lst (nl (((L.take i).filter fun p => p.2.children.isEmpty).map fun p => p.2.number)))) ?_ (fun i Hc _ h => h.2.1) ?_ ?_
  · refine ⟨fun b o e hb => ?_, ?_, ?_⟩
    · rw [upd_ne (ne_of_none e hD0)]
      exact st0 b o e hb
    · rw [upd_ne (Ne.symm hDd)]
      exact upd_same
    · exact upd_same
  · rintro i v Hc H' hi ⟨g1, g2, g3⟩ ⟨TT, x, y, rfl, hTT, rfl, ex, ey⟩
    rw [List.length_map] at hi
    obtain ⟨p, hp⟩ : ∃ p, L[i]? = some p := ⟨L[i], List.getElem?_eq_getElem hi⟩
    dsimp only at ex ey
    rw [List.getElem?_map, hp] at ex ey
    have ex2 : vn p.2.number = x := Option.some.inj ex
    have ey2 : V.ref p.1 = y := Option.some.inj ey
    subst ex2 ey2
    have mp : p ∈ L := List.mem_of_getElem? hp
    obtain ⟨_, ds, ca, ta, ha, as, e, _, _, rh, eh⟩ := hA.at_ p mp
    have nsd : p.1 ≠ d := fun z => by
      have := hA.dict
      rw [← z, e] at this
      cases this
    have nhd : ha ≠ d := fun z => by
      have := hA.dict
      rw [← z, eh] at this
      cases this
    have hTD : D ≠ TT := ne_of_none g3 hTT
    have hTd : d ≠ TT := ne_of_none g2 hTT
    have up : ∀ b o, H b = some o → b ≠ d → upd Hc TT (.tup [vn p.2.number, .ref p.1]) b = some o := fun b o e hb => by
      rw [upd_ne (ne_of_none (g1 b o e hb) hTT)]
      exact g1 b o e hb
    have more : L.take (i + 1) = L.take i ++ [p] := by
      rw [List.take_succ, hp]
      rfl
    refine ⟨TT, _, rfl, SqT.of upd_same, rfl, _, _, rfl, _, _, rfl, rfl, rfl, ?_⟩
    refine ⟨_, rfl, p.1, _, ds, _, _, rfl, up _ _ e nsd, T.clS, T.nS_children, st_children, _, .inl ⟨_, SqL.of (up _ _ eh nhd), rfl⟩, ?_⟩
    have ee : (!(!(nl p.2.children).isEmpty)) = p.2.children.isEmpty := by
      rw [Bool.not_not]
      cases p.2.children <;> rfl
    show if (!(!(nl p.2.children).isEmpty)) = true then _ else _
    rw [ee]
    cases c : p.2.children.isEmpty with
    | true =>
      refine if_true_of rfl ⟨_, rfl, _, by rw [upd_ne hTD]; exact g3, ?_, ?_, ?_, ?_⟩
      · rw [nl_len, List.length_map]
        have := List.length_filter_le (fun p : Addr × Nd => p.2.children.isEmpty) (L.take i)
        have h2 := (List.take_sublist i L).length_le
        exact size_lt (by omega)
      · intro b o e hb
        rw [upd_ne (ne_of_none e hD0)]
        exact up b o e hb
      · rw [upd_ne (Ne.symm hDd), upd_ne hTd]
        exact g2
      · rw [upd_same, more, List.filter_append, List.map_append, nl_app]
        have : ([p].filter fun p : Addr × Nd => p.2.children.isEmpty) = [p] := by simp [c]
        rw [this]
        rfl
    | false =>
      refine if_false_of rfl ⟨up, ?_, ?_⟩
      · rw [upd_ne hTd]
        exact g2
      · rw [upd_ne hTD, more, List.filter_append, List.map_append, nl_app]
        have : ([p].filter fun p : Addr × Nd => p.2.children.isEmpty) = [] := by simp [c]
        rw [this]
        show Hc D = some (.lst (nl _ ++ []))
        rw [List.append_nil]
        exact g3
  · rintro Hc ⟨g1, g2, g3⟩
    refine ⟨g2, k D _ hD0 (fun b o e => ?_) ?_⟩
    · by_cases hb : b = d
      · subst hb
        rw [upd_same]
        rw [hA.dict] at e
        exact e
      · rw [upd_ne hb]
        exact g1 b o e hb
    · rw [upd_ne hDd, g3, List.length_map, List.take_length]
      unfold Tr.leaves
      rw [← hA.nodes, List.filter_map, List.map_map]
      rfl
end UB
namespace UB
open PySem PySem.Spec PyProof.Rows L2
open Ue03 (Change)
open Mir
/-! ### Tree.add_state -/
abbrev s_Tree_add_state : Stmt := inClass (top 17) 5
theorem sc_Tree_add_state : FnScope ["self", "time", "changes", "text", "number", "parent"] ["self", "time", "changes", "text"] (defScope s_Tree_add_state) := ⟨rfl, rfl, rfl, by decide +kernel, rfl, by decide +kernel, by decide +kernel⟩
theorem ok_Tree_add_state {P : Program} {w : World} {K : PySem.W.Frag} {mg : Str → Option Value} {base : Heap} {A : Ad} {f : Addr} {fd : FuncData} (F : Fun K "add_state" "Tree.add_state" s_Tree_add_state f fd) (T : Txt K mg A)
    (m_Tree_current_state : MetX P w K mg base CX0 1 A.cs.T "current_state" ["self"] (sp_Tree_current_state K A))
    (m_State_init : MakX P w K mg base CX0 1 "State" A.cs.S ["self", "parent", "time", "changes", "text"] (sp_State_init K A))
    : FnOk P w K mg base CX0 3 f fd ["self", "time", "changes", "text"] (sp_Tree_add_state K A) := by
  have sc := sc_Tree_add_state
  refine F.ok sc (fun vs H Q E h => sp_Tree_add_state_len h) (fun cdv AA outer s H vs Q E hr h => ?_)
  refine ⟨_, (pss_cons (ps_set (i := 4) sc.nd rfl (Or.inl rfl) (pe_fld (pv 0) rfl))
      (pss_cons (ps_set (i := 5) sc.nd rfl (Or.inl rfl) (pe_m0 m_Tree_current_state (pv 0) T.clT hr (by decide) pass0))
      (pss_cons (ps_dput (hu_of hr) (pe_fld (pv 0) rfl) (pv 4) (pe_n m_State_init hr (by decide) pass0 (pa_cons (pe_fld (pv 0) rfl) (pa_cons (pv 1) (pa_cons (pv 2) (pa_cons (pv 3) pa_nil))))) rfl)
      (pss_cons (ps_expr (pe_bm PySem.F.plainAttrs_list PySem.F.slot_list_append PySem.F.type_list_append mt_append (pe_fld (pv 5) rfl) (pa_cons (pv 4) pa_nil)))
      (pss_cons (ps_fld (pv 5) (pv 4) rfl)
      (pss_cons (ps_fld (pv 0) (pv 4) rfl)
      (pss_cons (ps_fld (pv 0) (pe_op op_add (pv 4) pe_int) rfl)
      (pss_one (ps_ret (pv 4)))))))))), ?_⟩
  obtain ⟨a, d, ca, ta, ρ, t, L, time, as, cs, l, rfl, tA, rca, eca, hcs, hl, k⟩ := h
  obtain ⟨own, hA, w⟩ := tA
  obtain ⟨dx, hT⟩ := hA.obj
  have hc := w.here
  obtain ⟨sa, m, g, _⟩ := tr_some hA (find_get hc)
  have hcn := get_num hc
  refine ⟨_, rfl, a, _, dx, _, _, rfl, hT, T.clT, T.nT_next, tr_next, ?_⟩
  refine ⟨_, rfl, a, dx, _, rfl, hT, tr_no (by decide +kernel), ⟨a, d, ρ, t, L, _, rfl, hA, find_get hc, fun sb mb => ?_⟩⟩
  have hsb : (sb, t.get t.current) = (sa, t.get t.current) := uniq_of hA (sorted_nodup w.sorted) m _ mb rfl
  have hsb2 : sb = sa := congrArg Prod.fst hsb
  subst hsb2
  refine ⟨_, rfl, a, _, dx, _, _, rfl, hT, T.clT, T.nT_current, tr_current, _, rfl, _, rfl, _, rfl, fun y dy hy hdy hne => ⟨y, dy, ca, ta, _, time, rfl, upd_same, fun H1 hh f1 f2 f3 f4 => ⟨rfl, ?_⟩⟩⟩
  -- the new state
  have s1 : Same H (upd H dy (.own y)) := same_new hdy
  have hy1 : upd H dy (.own y) y = none := by
    rw [upd_ne (Ne.symm hne)]
    exact hy
  have s2 := s1.trans (same_new (o := .ins A.cs.S dy []) hy1)
  have up : Same H H1 := fun b o e => f4 b o (s2 b o e) (ne_of_none e hy)
  have nh : H hh = none := s2.free f1
  have hyh : y ≠ hh := fun z => by rw [z, f3] at f2; cases f2
  have far : ∀ {b : Addr} {o : HO}, H b = some o → give (give ρ y (.st t.next)) hh (.ch t.next) b = ρ b := fun e => by
    rw [give_ne (ne_of_none e nh), give_ne (ne_of_none e hy)]
  have fr1 : Fr inTree ρ H (give (give ρ y (.st t.next)) hh (.ch t.next)) H1 := fun b o e _ => ⟨up b o e, far e⟩
  have frN : Fr (fun _ => False) ρ H (give (give ρ y (.st t.next)) hh (.ch t.next)) H1 := fun b o e _ => ⟨up b o e, far e⟩
  have own1 : Own (give (give ρ y (.st t.next)) hh (.ch t.next)) H1 := by
    intro b r e
    by_cases c1 : b = hh
    · subst c1
      exact ⟨_, f3⟩
    · rw [give_ne c1] at e
      by_cases c2 : b = y
      · subst c2
        exact ⟨_, f2⟩
      · rw [give_ne c2] at e
        obtain ⟨o, ho⟩ := own b r e
        exact ⟨o, up b o ho⟩
  have hA1 := hA.fr frN (fun _ _ z => z)
  have stN : StA A.cs (give (give ρ y (.st t.next)) hh (.ch t.next)) H1 ⟨t.next, some t.current, time, cs, l, 0, [], none⟩ y := by
    refine ⟨?_, dy, ca, ta, hh, as, f2, ⟨?_, up _ _ eca, hcs.fr frN⟩, hl.fr frN, give_same, f3⟩
    · rw [give_ne hyh, give_same]
    · rw [far eca]
      exact rca
  have hT1 := up _ _ hT
  have hd1 := up _ _ hA.dict
  have nodes1 : ∀ x ∈ t.nodes, x.number ≠ t.next := fun x hx => Nat.ne_of_lt (w.below x hx)
  have newkey : valV (L.map kvOf) (Sum.inl (t.next : Int)) = none := by
    rw [val_find]
    have : (L.find? fun p => p.2.number == t.next) = none := by
      rw [List.find?_eq_none]
      intro p hp
      have hx : p.2 ∈ t.nodes := by
        rw [← hA.nodes]
        exact List.mem_map.mpr ⟨p, hp, rfl⟩
      simpa using nodes1 _ hx
    rw [this]
    rfl
  have hlen : L.length ≤ 100 := by
    have := w.count
    rw [← hA.nodes, List.length_map] at this
    exact this
  have put := DPut.k (k := Sum.inl (t.next : Int)) (v := V.ref y) hd1 (by rw [List.length_map]; exact size_lt (by omega))
  rw [putK_new _ newkey] at put
  have ekv : L.map kvOf ++ [(Sum.inl (t.next : Int), V.ref y)] = (L ++ [(y, (⟨t.next, some t.current, time, cs, l, 0, [], none⟩ : Nd))]).map kvOf := by
    rw [List.map_append]
    rfl
  rw [ekv] at put
  refine ⟨_, rfl, a, _, dx, _, _, rfl, hT1, T.clT, T.nT_states, tr_states, _, rfl, d, _, rfl, put, ?_⟩
  obtain ⟨hA2, fr2⟩ := tr_add hA1 stN
  -- the parent's list of children
  have m2 : (sb, t.get t.current) ∈ L ++ [(y, (⟨t.next, some t.current, time, cs, l, 0, [], none⟩ : Nd))] := List.mem_append_left _ m
  have nd2 : ((t.add ⟨t.next, some t.current, time, cs, l, 0, [], none⟩).nodes.map fun x => x.number).Nodup := by
    unfold Tr.add
    rw [List.map_append, List.nodup_append]
    refine ⟨sorted_nodup w.sorted, by simp, fun n hn n' hn' => ?_⟩
    have e' : n' = t.next := by simpa using hn'
    obtain ⟨x, hx, rfl⟩ := List.mem_map.mp hn
    rw [e']
    exact nodes1 x hx
  obtain ⟨ds, cp, tp, hp, ep, ek, chg⟩ := tr_kids hA2 nd2 m2
  have klen := kids_len w (get_mem hc)
  refine ⟨_, rfl, sb, _, ds, _, _, rfl, ep, T.clS, T.nS_children, st_children, .inl ⟨rfl, _, SqL.of ek⟩, _, rfl, hp, _, _, rfl, rfl, ek, (by rw [nl_len]; exact size_lt (by omega)), ?_⟩
  obtain ⟨hA3, fr3⟩ := chg fun l => l ++ [t.next]
  have ea : nl (t.get t.current).children ++ [vn t.next] = nl ((t.get t.current).children ++ [t.next]) := by
    rw [nl_app]
    rfl
  rw [ea]
  -- visited
  have m3 := List.mem_map_of_mem (f := modP (t.get t.current).number fun y => { y with children := y.children ++ [t.next] }) m2
  have em : modP (t.get t.current).number (fun y => { y with children := y.children ++ [t.next] }) (sb, t.get t.current) = (sb, { t.get t.current with children := (t.get t.current).children ++ [t.next] }) := by
    unfold modP
    rw [if_pos rfl]
  rw [em] at m3
  obtain ⟨ds3, cp3, tp3, hp3, ep3, sto⟩ := st_see (b := 0) (hA3.at_ _ m3)
  refine ⟨_, rfl, _, rfl, sb, _, ds3, _, rfl, ep3, T.clS, T.nS_visited, by show 7 < 1000; decide, ?_⟩
  rw [st_put_visited]
  obtain ⟨hA4, fr4⟩ := tr_obj hA3 (by rw [nums_mod (f := fun y => { y with children := y.children ++ [t.next] }) fun _ => rfl]; exact nd2) m3 (f := fun x => { x with visited := some t.next }) (fun _ => rfl) (sto t.next)
  obtain ⟨dx4, hT4⟩ := hA4.obj
  refine ⟨_, rfl, _, rfl, a, _, dx4, _, rfl, hT4, T.clT, T.nT_current, by show 3 < 1000; decide, ?_⟩
  rw [tr_put_current]
  refine ⟨_, rfl, _, _, rfl, rfl, _, rfl, a, _, dx4, _, rfl, upd_same, T.clT, T.nT_next, by show 3 < 1000; decide, ?_⟩
  have e9 : putF "next_number" (V.int ((t.next : Int) + 1)) (trF d t.next t.next) = trF d t.next (t.next + 1) := tr_put_next
  show tRet (tVar 4) _ _ (upd (upd _ a _) a (.ins A.cs.T dx4 (putF "next_number" (V.int ((t.next : Int) + 1)) (trF d t.next t.next))))
  rw [e9, upd_upd]
  obtain ⟨hA5, fr5⟩ := tr_field hA4 (c := t.next) (k := t.next + 1) (dx := dx4)
  refine ⟨_, rfl, ?_⟩
  have hA6 : TrA A.cs _ _ ({ ((t.add ⟨t.next, some t.current, time, cs, l, 0, [], none⟩).mod (t.get t.current).number fun y => { y with children := y.children ++ [t.next] }).mod (t.get t.current).number (fun x => { x with visited := some t.next }) with current := t.next, next := t.next + 1 } : Tr) a d _ := hA5
  have et : ({ ((t.add ⟨t.next, some t.current, time, cs, l, 0, [], none⟩).mod (t.get t.current).number fun y => { y with children := y.children ++ [t.next] }).mod (t.get t.current).number (fun x => { x with visited := some t.next }) with current := t.next, next := t.next + 1 } : Tr) = t.addState time cs l := by
    rw [hcn]
    rfl
  rw [et] at hA6
  exact k _ _ ⟨((own1.upd.upd).upd).upd, ⟨d, _, hA6⟩, (((fr1.trans fr2).trans fr3).trans fr4).trans fr5⟩
end UB
namespace UB
open PySem PySem.Spec PyProof.Rows L2
open Ue03 (Change)
open Mir
/-! ### Tree.way_to -/
abbrev s_Tree_way_to : Stmt := inClass (top 17) 6
theorem sc_Tree_way_to : FnScope ["self", "number", "way", "parent"] ["self", "number"] (defScope s_Tree_way_to) := ⟨rfl, rfl, rfl, by decide +kernel, rfl, by decide +kernel, by decide +kernel⟩
theorem ok_Tree_way_to {P : Program} {w : World} {K : PySem.W.Frag} {mg : Str → Option Value} {base : Heap} {A : Ad} {f : Addr} {fd : FuncData} (F : Fun K "way_to" "Tree.way_to" s_Tree_way_to f fd) (T : Txt K mg A)
    : FnOk P w K mg base CX0 1 f fd ["self", "number"] (sp_Tree_way_to K A) := by
  have sc := sc_Tree_way_to
  refine F.ok sc (fun vs H Q E h => sp_Tree_way_to_len h) (fun cdv AA outer s H vs Q E hr h => ?_)
  refine ⟨_, (pss_cons (ps_set (i := 2) sc.nd rfl (Or.inl rfl) (pe_lst (pa_cons (pv 1) pa_nil)))
      (pss_cons (ps_set (i := 3) sc.nd rfl (Or.inl rfl) (pe_fld (pe_dget (hu_of hr) (pe_fld (pv 0) rfl) (pv 1) (fun _ _ => rfl)) rfl))
      (pss_cons (ps_while PassesOwn.never (pt_cmpR op_notN (pv 3) pe_non (nomark _)) (pss_cons (ps_expr (pe_bm PySem.F.plainAttrs_list PySem.F.slot_list_append PySem.F.type_list_append mt_append (pv 2) (pa_cons (pv 3) pa_nil)))
        (pss_one (ps_set (i := 3) sc.nd rfl (Or.inl rfl) (pe_fld (pe_dget (hu_of hr) (pe_fld (pv 0) rfl) (pv 3) (fun _ _ => rfl)) rfl)))))
      (pss_cons (ps_expr (pe_bm0 PySem.F.plainAttrs_list PySem.F.slot_list_reverse PySem.F.type_list_reverse mt_reverse (pv 2)))
      (pss_one (ps_ret (pv 2))))))), ?_⟩
  obtain ⟨a, d, ρ, t, L, n, x, rfl, tA, q, k⟩ := h
  obtain ⟨own, hA, w⟩ := tA
  obtain ⟨dx, hT⟩ := hA.obj
  have hn : (t.find n).isSome = true := by rw [q]; rfl
  refine ⟨_, rfl, (by show 1 ≤ sizeLine; decide), fun wa hwa => ?_⟩
  have s0 : Same H (upd H wa (.lst [vn n])) := same_new hwa
  -- the parent of a state that is there
  have par : ∀ (H1 : Hp), Same H H1 → ∀ m, (t.find m).isSome = true → ∀ (Q1 : VK) (σ : L2.St), σ[0]? = some (some (.ref a)) → ∀ i : Nat, σ[i]? = some (some (vn m)) → Q1 (vo (t.get m).parent) H1 → tFld K (tDGet (tFld K (tVar 0) "states") (tVar i)) "parent" σ H1 Q1 := by
    intro H1 s1 m hm Q1 σ e0 i ei h1
    have hA1 := hA.same s1
    obtain ⟨sa, mm, g, _⟩ := tr_some hA1 (find_get hm)
    obtain ⟨_, ds, ca, ta, ha, as, e, _⟩ := hA1.at_ _ mm
    exact ⟨_, e0, a, _, dx, _, _, rfl, s1 _ _ hT, T.clT, T.nT_states, tr_states, _, ei, d, _, rfl, g, sa, _, ds, _, _, rfl, e, T.clS, T.nS_parent, st_parent, h1⟩
  refine par _ s0 n hn _ _ rfl 1 rfl ?_
  refine ⟨fun m σ H1 => ∃ (pre : List Nat) (p : Option Nat), σ = [some (.ref a), some (vn n), some (.ref wa), some (vo p)] ∧ Same H H1 ∧ H1 wa = some (.lst (nl pre)) ∧ pre.length + m ≤ n + 1 ∧
    (match p with | none => pre = Tr.up n t n | some c => (t.find c).isSome = true ∧ c < m ∧ pre ++ Tr.up c t c = Tr.up n t n), ⟨n, [n], (t.get n).parent, rfl, s0, upd_same, by simp; omega, ?_⟩, ?_⟩
  · cases e : (t.get n).parent with
    | none => exact (up_none w e).symm
    | some c =>
      obtain ⟨h1, h2⟩ := w.parSome hn e
      exact ⟨h1, h2, (up_some w hn e).symm⟩
  · rintro m σ H1 ⟨pre, p, rfl, s1, ew, hlen, hp⟩
    have hB : n < 100 := by
      have h1 := w.below _ (get_mem hn)
      rw [get_num hn] at h1
      have := w.next
      omega
    cases p with
    | none =>
      subst hp
      refine ⟨_, rfl, rfl, _, rfl, if_false_of rfl ?_⟩
      refine ⟨_, rfl, .inl ⟨rfl, _, SqL.of ew⟩, wa, _, rfl, rfl, ew, ?_⟩
      refine ⟨_, rfl, ?_⟩
      refine k wa _ hwa (fun b o e => ?_) ?_
      · rw [upd_ne (ne_of_none e hwa)]
        exact s1 b o e
      · rw [upd_same]
        unfold Tr.way nl
        rw [List.map_reverse]
    | some c =>
      obtain ⟨h1, h2, h3⟩ := hp
      refine ⟨_, rfl, rfl, _, rfl, if_true_of rfl ?_⟩
      refine ⟨fun σ' H' => ∃ m', m' < m ∧ (∃ (pre : List Nat) (p : Option Nat), σ' = [some (.ref a), some (vn n), some (.ref wa), some (vo p)] ∧ Same H H' ∧ H' wa = some (.lst (nl pre)) ∧ pre.length + m' ≤ n + 1 ∧
        (match p with | none => pre = Tr.up n t n | some c => (t.find c).isSome = true ∧ c < m' ∧ pre ++ Tr.up c t c = Tr.up n t n)), fun _ _ h => h, ?_⟩
      refine ⟨_, rfl, .inl ⟨rfl, _, SqL.of ew⟩, _, rfl, wa, _, _, rfl, rfl, ew, ?_, ?_⟩
      · rw [nl_len]
        exact size_lt (by omega)
      have s2 : Same H (upd H1 wa (.lst (nl pre ++ [vn c]))) := fun b o e => by
        rw [upd_ne (ne_of_none e hwa)]
        exact s1 b o e
      refine par _ s2 c h1 _ _ rfl 3 rfl ?_
      refine ⟨c, h2, pre ++ [c], (t.get c).parent, rfl, s2, ?_, ?_, ?_⟩
      · rw [upd_same, nl_app]
        rfl
      · rw [List.length_append]
        show pre.length + 1 + c ≤ n + 1
        omega
      · cases e : (t.get c).parent with
        | none =>
          rw [up_none w e] at h3
          exact h3
        | some c2 =>
          obtain ⟨g1, g2⟩ := w.parSome h1 e
          rw [up_some w h1 e] at h3
          refine ⟨g1, g2, ?_⟩
          rw [← h3, List.append_assoc]
          rfl
end UB
namespace UB
open PySem PySem.Spec PyProof.Rows L2
open Ue03 (Change)
open Mir
/-! ### Tree.path -/
abbrev s_Tree_path : Stmt := inClass (top 17) 7
theorem sc_Tree_path : FnScope ["self", "from_state", "to_state", "old_way", "new_way", "shorter", "shared", "way_up"] ["self", "from_state", "to_state"] (defScope s_Tree_path) := ⟨rfl, rfl, rfl, by decide +kernel, rfl, by decide +kernel, by decide +kernel⟩
theorem ok_Tree_path {P : Program} {w : World} {K : PySem.W.Frag} {mg : Str → Option Value} {base : Heap} {A : Ad} {f : Addr} {fd : FuncData} (F : Fun K "path" "Tree.path" s_Tree_path f fd) (T : Txt K mg A)
    (m_Tree_way_to : MetX P w K mg base CX0 1 A.cs.T "way_to" ["self", "number"] (sp_Tree_way_to K A))
    : FnOk P w K mg base CX0 2 f fd ["self", "from_state", "to_state"] (sp_Tree_path K A) := by
  have sc := sc_Tree_path
  refine F.ok sc (fun vs H Q E h => sp_Tree_path_len h) (fun cdv AA outer s H vs Q E hr h => ?_)
  refine ⟨_, (pss_cons (ps_set (i := 3) sc.nd rfl (Or.inl rfl) (pe_m m_Tree_way_to (pv 0) T.clT hr (by decide) pass0 (pa_cons (pv 1) pa_nil)))
      (pss_cons (ps_set (i := 4) sc.nd rfl (Or.inl rfl) (pe_m m_Tree_way_to (pv 0) T.clT hr (by decide) pass0 (pa_cons (pv 2) pa_nil)))
      (pss_cons (ps_set (i := 5) sc.nd rfl (Or.inl rfl) (pe_callB (call_min2 rfl) (by rfl) T.min (by decide +kernel) (pa_cons (pe_callB call_len_seq (by rfl) T.len PySem.boot_len (pa_cons (pv 3) pa_nil)) (pa_cons (pe_callB call_len_seq (by rfl) T.len PySem.boot_len (pa_cons (pv 4) pa_nil)) pa_nil))))
      (pss_cons (ps_set (i := 6) sc.nd rfl (Or.inl rfl) pe_int)
      (pss_cons (ps_while PassesOwn.never (PW.pt (pw_and (pt_cmpR op_lt (pv 6) (pv 5) (nomark _)) (pw_and1 (pt_cmpR op_eq (pe_ix ix_list (pv 3) (pv 6) (fun _ _ => rfl)) (pe_ix ix_list (pv 4) (pv 6) (fun _ _ => rfl)) (nomark _))))) (pss_one (ps_set (i := 6) sc.nd rfl (Or.inl rfl) (pe_op op_add (pv 6) pe_int))))
      (pss_cons (ps_set (i := 7) sc.nd rfl (Or.inl rfl) (pe_slice sl_list (pv 3) (po_some (pv 6)) po_none))
      (pss_cons (ps_expr (pe_bm0 PySem.F.plainAttrs_list PySem.F.slot_list_reverse PySem.F.type_list_reverse mt_reverse (pv 7)))
      (pss_one (ps_ret (pe_tup (pa_cons (pv 7) (pa_cons (pe_ix ix_list (pv 3) (pe_op op_sub (pv 6) pe_int) (fun _ _ => rfl)) (pa_cons (pe_slice sl_list (pv 4) (po_some (pv 6)) po_none) pa_nil))))))))))))), ?_⟩
  obtain ⟨a, d, ρ, t, L, m, n, x, y, rfl, tA, q1, q2, k⟩ := h
  obtain ⟨own, hA, w⟩ := tA
  obtain ⟨dx, hT⟩ := hA.obj
  have hm : (t.find m).isSome = true := by rw [q1]; rfl
  have hn : (t.find n).isSome = true := by rw [q2]; rfl
  refine ⟨_, rfl, a, dx, _, rfl, hT, tr_no (by decide +kernel), _, rfl, ⟨a, d, ρ, t, L, m, x, rfl, ⟨own, hA, w⟩, q1, fun o1 H1 f1 s1 e1 => ?_⟩⟩
  refine ⟨_, rfl, a, dx, _, rfl, s1 _ _ hT, tr_no (by decide +kernel), _, rfl, ⟨a, d, ρ, t, L, n, y, rfl, ⟨own.same s1, hA.same s1, w⟩, q2, fun o2 H2 f2 s2 e2 => ?_⟩⟩
  have e1' := s2 _ _ e1
  refine ⟨_, rfl, o1, _, rfl, .inl (SqL.of e1'), _, rfl, o2, _, rfl, .inl (SqL.of e2), _, _, rfl, ?_⟩
  have emin : (if ((nl (t.way n)).length : Int) < ((nl (t.way m)).length : Int) then ((nl (t.way n)).length : Int) else ((nl (t.way m)).length : Int)) = ((min (t.way m).length (t.way n).length : Nat) : Int) := by
    rw [nl_len, nl_len]
    split
    · omega
    · omega
  rw [emin]
  show (fun σ => _) _
  have hsh : t.shared m n = both (t.way m) (t.way n) := rfl
  have hpos := shared_pos w hm hn
  have hle := both_le (t.way m) (t.way n)
  refine ⟨fun j σ Hc => ∃ i : Nat, σ = [some (.ref a), some (vn m), some (vn n), some (.ref o1), some (.ref o2), some (vn (min (t.way m).length (t.way n).length)), some (vn i), none] ∧ Hc = H2 ∧ i ≤ both (t.way m) (t.way n) ∧ j + i = both (t.way m) (t.way n),
    ⟨both (t.way m) (t.way n), 0, rfl, rfl, Nat.zero_le _, rfl⟩, ?_⟩
  rintro j σ Hc ⟨i, rfl, rfl, hi, hj⟩
  have leave : i = both (t.way m) (t.way n) → (tSeq (tAsg (tSl (rSlL K) (tVar 3) (tPart (tVar 6)) tNoPart) (gName 7)) (tSeq (tDrop (tBM0 K "list" rReverse (tVar 7))) (tRet (tTup (tCons (tVar 7) (tCons (tOp (rIxL K) (tVar 3) (tOp (rI0 fun i j => .int (i - j)) (tVar 6) (tC (.int 1)))) (tCons (tSl (rSlL K) (tVar 4) (tPart (tVar 6)) tNoPart) tNil))))))) { nx := fun _ H' => Q .non H', rt := Q }
      [some (.ref a), some (vn m), some (vn n), some (.ref o1), some (.ref o2), some (vn (min (t.way m).length (t.way n).length)), some (vn i), none] Hc := by
    intro hi2
    refine ⟨_, rfl, _, rfl, _, rfl, o1, _, rfl, SqL.of e1', fun u hu => ?_⟩
    rw [cut_from]
    refine ⟨_, rfl, .inl ⟨rfl, _, SqL.of upd_same⟩, u, _, rfl, rfl, upd_same, ?_⟩
    rw [upd_upd]
    have er : (nl ((t.way m).drop i)).reverse = nl (t.pathUp m n) := by
      unfold Tr.pathUp nl
      rw [hsh, ← hi2, List.map_reverse]
    rw [er]
    have s3 : Same Hc (upd Hc u (.lst (nl (t.pathUp m n)))) := same_new hu
    have ei : V.int ((i : Int) - 1) = vn (i - 1) := by
      unfold vn
      congr 1
      omega
    have at1 : (t.way m)[i - 1]? = some (t.pathTurn m n) := by
      unfold Tr.pathTurn
      rw [hsh, ← hi2, List.getD_eq_getElem?_getD]
      have : i - 1 < (t.way m).length := by omega
      rw [List.getElem?_eq_getElem this]
      rfl
    refine ⟨_, rfl, _, rfl, _, rfl, _, _, rfl, rfl, o1, _, _, _, rfl, rfl, SqL.of (s3 _ _ e1'), (by rw [show ((i : Int) - 1) = ((i - 1 : Nat) : Int) by omega]; exact atI_nat (nl_at at1)), _, rfl, _, rfl, _, rfl, o2, _, rfl, SqL.of (s3 _ _ e2), fun wd hw => ?_⟩
    rw [cut_from]
    have ed : (t.way n).drop i = t.pathDown m n := by
      unfold Tr.pathDown
      rw [hsh, ← hi2]
    rw [ed]
    have s4 := s3.trans (same_new (o := .lst (nl (t.pathDown m n))) hw)
    have hwu : u ≠ wd := ne_of_none upd_same hw
    refine ⟨(by show 3 ≤ sizeLine; decide), fun p hp => ?_⟩
    have s5 := s4.trans (same_new (o := .tup [.ref u, vn (t.pathTurn m n), .ref wd]) hp)
    refine k _ p u wd ((s1.trans s2).trans s5) ((s1.trans s2).free hu) ((s1.trans s2).free (s3.free hw)) hwu upd_same ?_ ?_
    · exact same_new hp _ _ (same_new hw _ _ upd_same)
    · exact same_new hp _ _ upd_same
  by_cases c1 : i < min (t.way m).length (t.way n).length
  · refine ⟨_, rfl, _, rfl, _, _, rfl, rfl, _, rfl, if_true_of (decide_eq_true (by omega)) ?_⟩
    have a1 : (t.way m)[i]? = some ((t.way m)[i]'(by omega)) := List.getElem?_eq_getElem (by omega)
    have a2 : (t.way n)[i]? = some ((t.way n)[i]'(by omega)) := List.getElem?_eq_getElem (by omega)
    refine ⟨_, rfl, _, rfl, o1, _, _, _, rfl, rfl, SqL.of e1', atI_nat (nl_at a1), _, rfl, _, rfl, o2, _, _, _, rfl, rfl, SqL.of e2, atI_nat (nl_at a2), rfl, _, rfl, ?_⟩
    by_cases c2 : (t.way m)[i]'(by omega) = (t.way n)[i]'(by omega)
    · refine if_true_of (decide_eq_true (by rw [c2])) ?_
      have more := both_more (l := t.way m) (m := t.way n) hi (by omega) (by omega) c2
      refine ⟨fun σ' H' => ∃ j', j' < j ∧ ∃ i : Nat, σ' = [some (.ref a), some (vn m), some (vn n), some (.ref o1), some (.ref o2), some (vn (min (t.way m).length (t.way n).length)), some (vn i), none] ∧ H' = Hc ∧ i ≤ both (t.way m) (t.way n) ∧ j' + i = both (t.way m) (t.way n), fun _ _ h => h, ?_⟩
      exact ⟨_, rfl, _, _, rfl, rfl, j - 1, by omega, i + 1, rfl, rfl, more, by omega⟩
    · refine if_false_of (decide_eq_false (fun z => ?_)) (leave (both_stop hi (by omega) (by omega) c2))
      unfold vn at z
      injection z with z
      exact c2 (Int.ofNat.inj z)
  · refine ⟨_, rfl, _, rfl, _, _, rfl, rfl, _, rfl, if_false_of (decide_eq_false (by omega)) ?_⟩
    exact if_false_of rfl (leave (by omega))
end UB
namespace UB
open PySem PySem.Spec PyProof.Rows L2
open Ue03 (Change)
open Mir
/-! ### Tree.visit -/
abbrev s_Tree_visit : Stmt := inClass (top 17) 8
theorem sc_Tree_visit : FnScope ["self", "number", "way", "number_above", "number_below", "state"] ["self", "number"] (defScope s_Tree_visit) := ⟨rfl, rfl, rfl, by decide +kernel, rfl, by decide +kernel, by decide +kernel⟩
theorem ok_Tree_visit {P : Program} {w : World} {K : PySem.W.Frag} {mg : Str → Option Value} {base : Heap} {A : Ad} {f : Addr} {fd : FuncData} (F : Fun K "visit" "Tree.visit" s_Tree_visit f fd) (T : Txt K mg A)
    (m_Tree_way_to : MetX P w K mg base CX0 1 A.cs.T "way_to" ["self", "number"] (sp_Tree_way_to K A))
    : FnOk P w K mg base CX0 2 f fd ["self", "number"] (sp_Tree_visit K A) := by
  have sc := sc_Tree_visit
  refine F.ok sc (fun vs H Q E h => sp_Tree_visit_len h) (fun cdv AA outer s H vs Q E hr h => ?_)
  refine ⟨_, (pss_cons (ps_set (i := 2) sc.nd rfl (Or.inl rfl) (pe_m m_Tree_way_to (pv 0) T.clT hr (by decide) pass0 (pa_cons (pv 1) pa_nil)))
      (pss_cons (ps_for PassesOwn.never rfl (pi_zip (by rfl) T.zip (pa_cons (pv 2) (pa_cons (pe_slice sl_list (pv 2) (po_some pe_int) po_none) pa_nil))) (pg_tup rfl (pgs_cons (pg_name (i := 3) sc.nd rfl (Or.inl rfl)) (pgs_cons (pg_name (i := 4) sc.nd rfl (Or.inl rfl)) pgs_nil))) (pss_cons (ps_set (i := 5) sc.nd rfl (Or.inl rfl) (pe_dget (hu_of hr) (pe_fld (pv 0) rfl) (pv 3) (fun _ _ => rfl)))
        (pss_one (ps_fld (pv 5) (pv 4) rfl))))
      (pss_one (ps_fld (pv 0) (pv 1) rfl)))), ?_⟩
  obtain ⟨a, d, ρ, t, L, n, x, rfl, tA, q, k⟩ := h
  obtain ⟨own, hA, w⟩ := tA
  obtain ⟨dx, hT⟩ := hA.obj
  have hn : (t.find n).isSome = true := by rw [q]; rfl
  refine ⟨_, rfl, a, dx, _, rfl, hT, tr_no (by decide +kernel), _, rfl, ⟨a, d, ρ, t, L, n, x, rfl, ⟨own, hA, w⟩, q, fun wa H1 f1 s1 e1 => ?_⟩⟩
  refine ⟨_, rfl, _, rfl, _, rfl, wa, _, rfl, SqL.of e1, fun wb hwb => ?_⟩
  rw [show (some (1 : Int)) = some ((1 : Nat) : Int) from rfl, cut_from]
  have s2 : Same H1 (upd H1 wb (.lst (nl ((t.way n).drop 1)))) := same_new hwb
  have s12 := s1.trans s2
  have rwa : ρ wa = none := own.free f1
  have rwb : ρ wb = none := own.free (s1.free hwb)
  have e1' := s2 _ _ e1
  refine ⟨wa, wb, _, _, rfl, SqL.of e1', SqL.of upd_same, ?_⟩
  have hlen : ((t.way n).zip ((t.way n).drop 1)).length = min (nl (t.way n)).length (nl ((t.way n).drop 1)).length := by
    rw [List.length_zip, nl_len, nl_len]
  refine for_it (walk_zip hlen) (fun i σ Hc => ∃ (v3 v4 v5 : Option V) (L' : List (Addr × Nd)), σ = [some (.ref a), some (vn n), some (.ref wa), v3, v4, v5] ∧ Own ρ Hc ∧ TrA A.cs ρ Hc (t.sees (((t.way n).zip ((t.way n).drop 1)).take i)) a d L' ∧
    Fr inTree ρ (upd H1 wb (.lst (nl ((t.way n).drop 1)))) ρ Hc) ?_ ?_ ?_ ?_
  · exact ⟨none, none, none, L, rfl, own.same s12, hA.same s12, Fr.refl⟩
  · rintro i σ Hc _ ⟨v3, v4, v5, L', rfl, o, hA', fr⟩
    exact ⟨SqL.of (fr.keep e1' rwa).1, SqL.of (fr.keep upd_same rwb).1⟩
  · rintro i v σ Hc H' hi ⟨v3, v4, v5, L', rfl, o, hA', fr⟩ ⟨TT, x1, y1, rfl, hTT, rfl, ex, ey⟩
    dsimp only at ex ey
    have hz := List.getElem?_eq_getElem hi
    obtain ⟨pr, hpr⟩ : ∃ pr, ((t.way n).zip ((t.way n).drop 1))[i]? = some pr := ⟨_, hz⟩
    have hp2 := List.getElem?_zip_eq_some.mp hpr
    have ex2 : vn pr.1 = x1 := by
      rw [nl_at hp2.1] at ex
      exact Option.some.inj ex
    have ey2 : vn pr.2 = y1 := by
      rw [nl_at hp2.2] at ey
      exact Option.some.inj ey
    subst ex2 ey2
    have sT : Same Hc (upd Hc TT (.tup [vn pr.1, vn pr.2])) := same_new hTT
    have hA2 := hA'.same sT
    have nums : ∀ l : List (Nat × Nat), (t.sees l).nodes.map (fun x => x.number) = t.nodes.map fun x => x.number := by
      intro l
      unfold Tr.sees
      suffices ∀ t' : Tr, (l.foldl (fun t p => t.see p.1 p.2) t').nodes.map (fun x => x.number) = t'.nodes.map fun x => x.number from this t
      induction l with
      | nil => intro _; rfl
      | cons p r ih =>
        intro t'
        rw [List.foldl_cons, ih]
        exact nums_mod (f := fun x => { x with visited := some p.2 }) fun _ => rfl
    have hm : pr.1 ∈ t.way n := List.mem_of_getElem? hp2.1
    have hf0 := (way_mem w n hn _ hm).1
    have hf : ((t.sees (((t.way n).zip ((t.way n).drop 1)).take i)).find pr.1).isSome = true := by
      rw [find_isSome] at hf0 ⊢
      obtain ⟨x0, h1, h2⟩ := hf0
      have : pr.1 ∈ (t.sees (((t.way n).zip ((t.way n).drop 1)).take i)).nodes.map fun x => x.number := by
        rw [nums]
        exact List.mem_map.mpr ⟨x0, h1, h2⟩
      obtain ⟨x3, h3, h4⟩ := List.mem_map.mp this
      exact ⟨x3, h3, h4⟩
    obtain ⟨sa, mm, g, _⟩ := tr_some hA2 (find_get hf)
    have hnum := get_num hf
    obtain ⟨dx2, hT2⟩ := hA2.obj
    refine ⟨TT, _, rfl, SqT.of upd_same, rfl, _, _, rfl, _, _, rfl, rfl, ?_⟩
    refine ⟨_, rfl, a, _, dx2, _, _, rfl, hT2, T.clT, T.nT_states, tr_states, _, rfl, d, _, rfl, g, ?_⟩
    obtain ⟨ds, ca, ta, ha, eo, st'⟩ := st_see (b := 0) (hA2.at_ _ mm)
    refine ⟨_, rfl, _, rfl, sa, _, ds, _, rfl, eo, T.clS, T.nS_visited, by show 7 < 1000; decide, ?_⟩
    rw [st_put_visited]
    have nd : ((t.sees (((t.way n).zip ((t.way n).drop 1)).take i)).nodes.map fun x => x.number).Nodup := by
      rw [nums]
      exact sorted_nodup w.sorted
    obtain ⟨z1, z2⟩ := tr_obj hA2 nd mm (f := fun x => { x with visited := some pr.2 }) (fun _ => rfl) (st' pr.2)
    rw [hnum] at z1
    refine ⟨_, _, _, L'.map (modP pr.1 fun x => { x with visited := some pr.2 }), rfl, (o.same sT).upd, ?_, (fr.trans (Fr.of_same sT)).trans z2⟩
    · have more : ((t.way n).zip ((t.way n).drop 1)).take (i + 1) = ((t.way n).zip ((t.way n).drop 1)).take i ++ [pr] := by
        rw [List.take_succ, hpr]
        rfl
      rw [more]
      unfold Tr.sees at z1 ⊢
      rw [List.foldl_append]
      exact z1
  · rintro σ Hc ⟨v3, v4, v5, L', rfl, o, hA', fr⟩
    obtain ⟨dx2, hT2⟩ := hA'.obj
    rw [List.take_length] at hA' hT2
    refine ⟨_, rfl, _, rfl, a, _, dx2, _, rfl, hT2, T.clT, T.nT_current, by show 3 < 1000; decide, ?_⟩
    rw [tr_put_current]
    obtain ⟨z1, z2⟩ := tr_field hA' (c := n) (k := (t.sees ((t.way n).zip ((t.way n).drop 1))).next) (dx := dx2)
    exact k _ ρ ⟨o.upd, ⟨d, L', z1⟩, ((Fr.of_same s12).trans fr).trans z2⟩
end UB
namespace UB
open PySem PySem.Spec PyProof.Rows L2
open Ue03 (Change)
open Mir
/-! ### Tree.can_go -/
abbrev s_Tree_can_go : Stmt := inClass (top 17) 9
theorem sc_Tree_can_go : FnScope ["self", "number"] ["self", "number"] (defScope s_Tree_can_go) := ⟨rfl, rfl, rfl, by decide +kernel, rfl, by decide +kernel, by decide +kernel⟩
theorem ok_Tree_can_go {P : Program} {w : World} {K : PySem.W.Frag} {mg : Str → Option Value} {base : Heap} {A : Ad} {f : Addr} {fd : FuncData} (F : Fun K "can_go" "Tree.can_go" s_Tree_can_go f fd) (T : Txt K mg A)
    : FnOk P w K mg base CX0 1 f fd ["self", "number"] (sp_Tree_can_go K A) := by
  have sc := sc_Tree_can_go
  refine F.ok sc (fun vs H Q E h => sp_Tree_can_go_len h) (fun cdv AA outer s H vs Q E hr h => ?_)
  refine ⟨_, (pss_one (ps_ret (pe_and (pe_cmpR op_ne (pv 1) (pe_fld (pv 0) rfl) (nomark _)) (pe_one (pe_cmpR op_eq (pe_fld (pe_dget (hu_of hr) (pe_fld (pv 0) rfl) (pv 1) (fun _ _ => rfl)) rfl) pe_int (nomark _)))))), ?_⟩
  obtain ⟨a, d, ρ, t, L, n, x, rfl, hA, q, k⟩ := h
  obtain ⟨dx, hT⟩ := hA.obj
  obtain ⟨sa, m, g, _⟩ := tr_some hA q
  obtain ⟨_, ds, ca, ta, ha, as, e, _⟩ := hA.at_ _ m
  have gx := get_find q
  unfold Tr.canGo at k
  rw [gx] at k
  have e0 : (decide (vn n = vn t.current)) = (n == t.current) := by
    by_cases c : n = t.current
    · subst c
      simp
    · have c2 : ¬ (vn n = vn t.current) := by
        intro z
        unfold vn at z
        injection z with z
        exact c (Int.ofNat.inj z)
      rw [decide_eq_false c2]
      exact (beq_false_of_ne c).symm
  refine ⟨_, rfl, _, rfl, a, _, dx, _, _, rfl, hT, T.clT, T.nT_current, tr_current, rfl, _, rfl, ?_⟩
  rw [e0]
  by_cases c : n = t.current
  · subst c
    refine if_false_of (by simp) ?_
    have : (t.current != t.current && x.kept == 0) = false := by simp
    rw [this] at k
    exact k
  · refine if_true_of (by simpa using c) ?_
    refine ⟨_, rfl, a, _, dx, _, _, rfl, hT, T.clT, T.nT_states, tr_states, _, rfl, d, _, rfl, g, sa, _, ds, _, _, rfl, e, T.clS, T.nS_kept, st_kept, rfl, ?_⟩
    have e2 : (decide (vn x.kept = V.int 0)) = (n != t.current && x.kept == 0) := by
      have : (n != t.current) = true := by simpa using c
      rw [this, Bool.true_and]
      by_cases c2 : x.kept = 0
      · rw [c2]
        rfl
      · have c3 : ¬ (vn x.kept = V.int 0) := by
          intro z
          unfold vn at z
          injection z with z
          exact c2 (Int.ofNat.inj z)
        rw [decide_eq_false c3]
        exact (beq_false_of_ne c2).symm
    show Q (.bl (decide (vn x.kept = V.int 0))) H
    rw [e2]
    exact k
end UB
namespace UB
open PySem PySem.Spec PyProof.Rows L2
open Ue03 (Change)
open Mir
/-! ### Tree.first_leaf_to_go -/
abbrev s_Tree_first_leaf_to_go : Stmt := inClass (top 17) 10
theorem sc_Tree_first_leaf_to_go : FnScope ["self", "number"] ["self"] (defScope s_Tree_first_leaf_to_go) := ⟨rfl, rfl, rfl, by decide +kernel, rfl, by decide +kernel, by decide +kernel⟩
theorem ok_Tree_first_leaf_to_go {P : Program} {w : World} {K : PySem.W.Frag} {mg : Str → Option Value} {base : Heap} {A : Ad} {f : Addr} {fd : FuncData} (F : Fun K "first_leaf_to_go" "Tree.first_leaf_to_go" s_Tree_first_leaf_to_go f fd) (T : Txt K mg A)
    (m_Tree_leaves : MetX P w K mg base CX0 1 A.cs.T "leaves" ["self"] (sp_Tree_leaves K A))
    (m_Tree_can_go : MetX P w K mg base CX0 1 A.cs.T "can_go" ["self", "number"] (sp_Tree_can_go K A))
    : FnOk P w K mg base CX0 2 f fd ["self"] (sp_Tree_first_leaf_to_go K A) := by
  have sc := sc_Tree_first_leaf_to_go
  refine F.ok sc (fun vs H Q E h => sp_Tree_first_leaf_to_go_len h) (fun cdv AA outer s H vs Q E hr h => ?_)
  refine ⟨_, (pss_one (ps_ret (pe_callBK (cr_def_min rfl) (by rfl) T.min (by decide +kernel) (pa_cons (pe_lc (own := [("number", 1)]) (g := gName 1) rfl sc.nd (pi_list (pe_m0 m_Tree_leaves (pv 0) T.clT hr (by decide) pass0)) (blkOk_by (own := [("number", 1)]) (N := ["self", "number"]) (sc := defScope s_Tree_first_leaf_to_go) (by decide +kernel)) (fun _ _ _ _ _ => by exact (pg_name (i := 1) sc.nd rfl (Or.inl rfl))) (fun _ _ _ _ _ => by exact (pts_one (pt_val (pe_m m_Tree_can_go (pv 0) T.clT hr (by decide) pass0 (pa_cons (pv 1) pa_nil))))) (fun _ _ _ _ _ => by exact (pv 1))) pa_nil) (pk_cons pe_non pk_nil)))), ?_⟩
  obtain ⟨a, d, ρ, t, L, rfl, tA, k⟩ := h
  obtain ⟨own, hA, w⟩ := tA
  obtain ⟨dx, hT⟩ := hA.obj
  have lv : ∀ n ∈ t.leaves, (t.find n).isSome = true := fun n hn => by
    obtain ⟨x, hx, e⟩ := List.mem_map.mp hn
    exact find_isSome.mpr ⟨x, (List.mem_filter.mp hx).1, e⟩
  have lsort : t.leaves.Pairwise (· < ·) := List.Pairwise.sublist (List.Sublist.map _ List.filter_sublist) w.sorted
  have llen : t.leaves.length ≤ 100 := by
    unfold Tr.leaves
    rw [List.length_map]
    exact Nat.le_trans (List.length_filter_le _ _) w.count
  refine ⟨_, rfl, a, dx, _, rfl, hT, tr_no (by decide +kernel), ⟨a, d, ρ, t, L, rfl, ⟨own, hA, w⟩, fun p H1 f1 s1 e1 => ?_⟩⟩
  refine ⟨p, rfl, ⟨_, SqL.of e1⟩, fun D hD => ?_⟩
  refine lc_list (K := K) (a := p) (xs := nl t.leaves) (fun i Hc => Same H1 Hc ∧ Hc D = some (.lst (nl ((t.leaves.take i).filter t.canGo)))) ⟨same_new hD, upd_same⟩ (fun i Hc _ h => SqL.of (h.1 _ _ e1)) ?_ ?_
  · rintro i v Hc hi ⟨g1, g2⟩
    obtain ⟨n, hn, rfl⟩ : ∃ n, t.leaves[i]? = some n ∧ v = vn n := by
      unfold nl at hi
      rw [List.getElem?_map] at hi
      obtain ⟨n, h1, h2⟩ := Option.map_eq_some_iff.mp hi
      exact ⟨n, h1, h2.symm⟩
    have hf := lv n (List.mem_of_getElem? hn)
    have more : t.leaves.take (i + 1) = t.leaves.take i ++ [n] := by
      rw [List.take_succ, hn]
      rfl
    have s2 := s1.trans g1
    have hA2 := hA.same s2
    refine ⟨rfl, _, rfl, a, dx, _, rfl, s2 _ _ hT, tr_no (by decide +kernel), _, rfl, ⟨a, d, ρ, t, L, n, _, rfl, hA2, find_get hf, ?_⟩⟩
    refine ⟨_, rfl, ?_⟩
    cases c : t.canGo n with
    | true =>
      refine if_true_of rfl ⟨_, rfl, _, g2, ?_, fun b o e => ?_, ?_⟩
      · rw [nl_len]
        have := List.length_filter_le t.canGo (t.leaves.take i)
        have h2 := (List.take_sublist i t.leaves).length_le
        exact size_lt (by omega)
      · rw [upd_ne (ne_of_none e hD)]
        exact g1 b o e
      · rw [upd_same, more, List.filter_append, nl_app]
        have : [n].filter t.canGo = [n] := by simp [c]
        rw [this]
        rfl
    | false =>
      refine if_false_of rfl ⟨g1, ?_⟩
      rw [more, List.filter_append]
      have : [n].filter t.canGo = [] := by simp [c]
      rw [this, List.append_nil]
      exact g2
  · rintro Hc ⟨g1, g2⟩
    rw [nl_len, List.take_length] at g2
    have s2 := s1.trans g1
    have k2 := k Hc s2
    unfold Tr.firstLeaf at k2
    have srt : (t.leaves.filter t.canGo).Pairwise (· < ·) := List.Pairwise.sublist List.filter_sublist lsort
    refine ⟨D, ((t.leaves.filter t.canGo).map fun (n : Nat) => (n : Int)), .non, rfl, rfl, SqL.of (by rw [← nl_ints]; exact g2), fun e => ?_, fun m hm hle => ?_⟩
    · have e2 : t.leaves.filter t.canGo = [] := by simpa using e
      rw [e2] at k2
      exact k2
    · obtain ⟨n, hn, rfl⟩ := ints_mem hm
      have h2 := head_of srt hn fun y hy => Int.ofNat_le.mp (hle _ (List.mem_map.mpr ⟨y, hy, rfl⟩))
      rw [h2] at k2
      exact k2
end UB
namespace UB
open PySem PySem.Spec PyProof.Rows L2
open Ue03 (Change)
open Mir
/-! ### Tree.root_can_go -/
abbrev s_Tree_root_can_go : Stmt := inClass (top 17) 11
theorem sc_Tree_root_can_go : FnScope ["self", "root"] ["self"] (defScope s_Tree_root_can_go) := ⟨rfl, rfl, rfl, by decide +kernel, rfl, by decide +kernel, by decide +kernel⟩
theorem ok_Tree_root_can_go {P : Program} {w : World} {K : PySem.W.Frag} {mg : Str → Option Value} {base : Heap} {A : Ad} {f : Addr} {fd : FuncData} (F : Fun K "root_can_go" "Tree.root_can_go" s_Tree_root_can_go f fd) (T : Txt K mg A)
    (m_Tree_root : MetX P w K mg base CX0 1 A.cs.T "root" ["self"] (sp_Tree_root K A))
    (m_Tree_can_go : MetX P w K mg base CX0 1 A.cs.T "can_go" ["self", "number"] (sp_Tree_can_go K A))
    : FnOk P w K mg base CX0 2 f fd ["self"] (sp_Tree_root_can_go K A) := by
  have sc := sc_Tree_root_can_go
  refine F.ok sc (fun vs H Q E h => sp_Tree_root_can_go_len h) (fun cdv AA outer s H vs Q E hr h => ?_)
  refine ⟨_, (pss_cons (ps_set (i := 1) sc.nd rfl (Or.inl rfl) (pe_m0 m_Tree_root (pv 0) T.clT hr (by decide) pass0))
      (pss_one (ps_ret (pe_and (pe_m m_Tree_can_go (pv 0) T.clT hr (by decide) pass0 (pa_cons (pv 1) pa_nil)) (pe_one (pe_cmpR op_eq (pe_callB call_len_seq (by rfl) T.len PySem.boot_len (pa_cons (pe_fld (pe_dget (hu_of hr) (pe_fld (pv 0) rfl) (pv 1) (fun _ _ => rfl)) rfl) pa_nil)) pe_int (nomark _))))))), ?_⟩
  obtain ⟨a, d, ρ, t, L, rfl, tA, k⟩ := h
  obtain ⟨own, hA, w⟩ := tA
  obtain ⟨dx, hT⟩ := hA.obj
  have hr0 := w.rootNode.1
  obtain ⟨sa, m, g, _⟩ := tr_some hA (find_get hr0)
  obtain ⟨_, ds, ca, ta, ha, as, e, _, _, rh, eh⟩ := hA.at_ _ m
  refine ⟨_, rfl, a, dx, _, rfl, hT, tr_no (by decide +kernel), ⟨a, d, ρ, t, L, rfl, hA, w, ?_⟩⟩
  refine ⟨_, rfl, a, dx, _, rfl, hT, tr_no (by decide +kernel), _, rfl, ⟨a, d, ρ, t, L, t.root, _, rfl, hA, find_get hr0, ?_⟩⟩
  have k2 := k H (Same.refl H)
  unfold Tr.rootCanGo at k2
  refine ⟨_, rfl, ?_⟩
  cases c : t.canGo t.root with
  | false =>
    rw [c] at k2
    exact if_false_of rfl k2
  | true =>
    rw [c, Bool.true_and] at k2
    refine if_true_of rfl ?_
    refine ⟨_, rfl, a, _, dx, _, _, rfl, hT, T.clT, T.nT_states, tr_states, _, rfl, d, _, rfl, g, sa, _, ds, _, _, rfl, e, T.clS, T.nS_children, st_children, ha, _, rfl, .inl (SqL.of eh), rfl, ?_⟩
    have e2 : (decide (V.int ((nl (t.get t.root).children).length : Int) = V.int 1)) = ((t.get t.root).children.length == 1) := by
      rw [nl_len]
      by_cases c2 : (t.get t.root).children.length = 1
      · rw [c2]
        rfl
      · have c3 : ¬ (V.int ((t.get t.root).children.length : Int) = V.int 1) := by
          intro z
          injection z with z
          exact c2 (by omega)
        rw [decide_eq_false c3]
        exact (beq_false_of_ne c2).symm
    show Q (.bl (decide (V.int ((nl (t.get t.root).children).length : Int) = V.int 1))) H
    rw [e2]
    exact k2
end UB
namespace UB
open PySem PySem.Spec PyProof.Rows L2
open Ue03 (Change)
open Mir
/-! ### Tree.delete_leaf -/
abbrev s_Tree_delete_leaf : Stmt := inClass (top 17) 12
theorem sc_Tree_delete_leaf : FnScope ["self", "number", "leaf", "parent"] ["self", "number"] (defScope s_Tree_delete_leaf) := ⟨rfl, rfl, rfl, by decide +kernel, rfl, by decide +kernel, by decide +kernel⟩
theorem ok_Tree_delete_leaf {P : Program} {w : World} {K : PySem.W.Frag} {mg : Str → Option Value} {base : Heap} {A : Ad} {f : Addr} {fd : FuncData} (F : Fun K "delete_leaf" "Tree.delete_leaf" s_Tree_delete_leaf f fd) (T : Txt K mg A)
    : FnOk P w K mg base CX0 1 f fd ["self", "number"] (sp_Tree_delete_leaf K A) := by
  have sc := sc_Tree_delete_leaf
  refine F.ok sc (fun vs H Q E h => sp_Tree_delete_leaf_len h) (fun cdv AA outer s H vs Q E hr h => ?_)
  refine ⟨_, (pss_cons (ps_set (i := 2) sc.nd rfl (Or.inl rfl) (pe_dpop1 (pe_fld (pv 0) rfl) (pv 1) ⟨rfl, rfl, rfl, rfl⟩))
      (pss_cons (ps_set (i := 3) sc.nd rfl (Or.inl rfl) (pe_dget (hu_of hr) (pe_fld (pv 0) rfl) (pe_fld (pv 2) rfl) (fun _ _ => rfl)))
      (pss_one (ps_expr (pe_bm PySem.F.plainAttrs_list PySem.F.slot_list_remove PySem.F.type_list_remove mt_remove (pe_fld (pv 3) rfl) (pa_cons (pv 1) pa_nil)))))), ?_⟩
  obtain ⟨a, d, ρ, t, L, n, p, x, rfl, tA, q, hpar, hno, k⟩ := h
  obtain ⟨own, hA, w⟩ := tA
  obtain ⟨dx, hT⟩ := hA.obj
  have hx := find_mem q
  have hnum := find_num q
  obtain ⟨plt, y, hy, hyp⟩ := w.par x hx p hpar
  have gx := get_find q
  obtain ⟨sa, m, g, vv⟩ := tr_some hA q
  obtain ⟨_, ds, ca, ta, ha, as, e, _⟩ := hA.at_ _ m
  refine ⟨_, rfl, a, _, dx, _, _, rfl, hT, T.clT, T.nT_states, tr_states, d, rfl, .inl ⟨_, .inl hA.dict⟩, _, rfl, _, Sum.inl (n : Int), _, hA.dict, rfl, vv, ?_⟩
  obtain ⟨hA2, fr2⟩ := tr_del hA n
  obtain ⟨dx2, hT2⟩ := hA2.obj
  have had : sa ≠ d := fun z => by
    have := hA.dict
    rw [← z, e] at this
    cases this
  have e2 : upd H d (.dK (dropK (L.map kvOf) (Sum.inl (n : Int)))) sa = some (.ins A.cs.S ds (stF (vo x.parent) x.time ca ta x.kept ha (vo x.visited))) := by
    rw [upd_ne had]
    exact e
  have hy2 : y ∈ (t.del n).nodes := List.mem_filter.mpr ⟨hy, by rw [hyp]; simp; omega⟩
  have srt2 : ((t.del n).nodes.map fun x => x.number).Pairwise (· < ·) := List.Pairwise.sublist (List.Sublist.map _ List.filter_sublist) w.sorted
  have fy : (t.del n).find p = some y := by
    cases z : (t.del n).find p with
    | none => exact absurd hyp (find_none_iff.mp z y hy2)
    | some y' => rw [nums_inj srt2 (find_mem' z) hy2 ((find_num' z).trans hyp.symm)]
  obtain ⟨sp, mp, gp, _⟩ := tr_some hA2 fy
  rw [hpar] at e2
  refine ⟨_, rfl, a, _, dx2, _, _, rfl, hT2, T.clT, T.nT_states, tr_states, _, rfl, sa, _, ds, _, _, rfl, e2, T.clS, T.nS_parent, st_parent, d, _, rfl, gp, ?_⟩
  obtain ⟨dp, cp, tp, hp, ep, ek, chg⟩ := tr_kids hA2 (sorted_nodup srt2) mp
  obtain ⟨hA3, fr3⟩ := chg fun l => l.erase n
  rw [hyp] at hA3
  have hin : n ∈ y.children := (kids_mem w hy).mpr ⟨x, hx, hnum, by rw [hyp]; exact hpar⟩
  obtain ⟨j, hj, hfirst⟩ := first_at hin
  refine ⟨_, rfl, sp, _, dp, _, _, rfl, ep, T.clS, T.nS_children, st_children, .inl ⟨rfl, _, SqL.of ek⟩, _, rfl, hp, (y.children.map fun (n : Nat) => (n : Int)), (n : Int), j, rfl, rfl, (by rw [← nl_ints]; exact ek), ?_, ?_, ?_⟩
  · rw [List.getElem?_map, hj]
    rfl
  · intro i hi z
    rw [List.getElem?_map] at z
    obtain ⟨v, h1, h2⟩ := Option.map_eq_some_iff.mp z
    have h3 : v = n := Int.ofNat.inj h2
    subst h3
    exact hfirst i hi h1
  · have ee : ((y.children.map fun (n : Nat) => (n : Int)).eraseIdx j).map V.int = nl (y.children.erase n) := by
      rw [erase_first hj hfirst, erase_ints]
    rw [ee]
    have et : ((t.del n).mod p fun y => { y with children := y.children.erase n }) = t.delLeaf n := by
      unfold Tr.delLeaf
      rw [gx, hpar]
      rfl
    rw [et] at hA3
    exact k _ ρ ⟨own.upd.upd, ⟨d, _, hA3⟩, fr2.trans fr3⟩
end UB
namespace UB
open PySem PySem.Spec PyProof.Rows L2
open Ue03 (Change)
open Mir
/-! ### Tree.delete_root -/
abbrev s_Tree_delete_root : Stmt := inClass (top 17) 13
theorem sc_Tree_delete_root : FnScope ["self", "number", "old_root", "new_root"] ["self"] (defScope s_Tree_delete_root) := ⟨rfl, rfl, rfl, by decide +kernel, rfl, by decide +kernel, by decide +kernel⟩
theorem ok_Tree_delete_root {P : Program} {w : World} {K : PySem.W.Frag} {mg : Str → Option Value} {base : Heap} {A : Ad} {f : Addr} {fd : FuncData} (F : Fun K "delete_root" "Tree.delete_root" s_Tree_delete_root f fd) (T : Txt K mg A)
    (m_Tree_root : MetX P w K mg base CX0 1 A.cs.T "root" ["self"] (sp_Tree_root K A))
    : FnOk P w K mg base CX0 2 f fd ["self"] (sp_Tree_delete_root K A) := by
  have sc := sc_Tree_delete_root
  refine F.ok sc (fun vs H Q E h => sp_Tree_delete_root_len h) (fun cdv AA outer s H vs Q E hr h => ?_)
  refine ⟨_, (pss_cons (ps_set (i := 1) sc.nd rfl (Or.inl rfl) (pe_m0 m_Tree_root (pv 0) T.clT hr (by decide) pass0))
      (pss_cons (ps_set (i := 2) sc.nd rfl (Or.inl rfl) (pe_dpop1 (pe_fld (pv 0) rfl) (pv 1) ⟨rfl, rfl, rfl, rfl⟩))
      (pss_cons (ps_set (i := 3) sc.nd rfl (Or.inl rfl) (pe_dget (hu_of hr) (pe_fld (pv 0) rfl) (pe_ix ix_list (pe_fld (pv 2) rfl) pe_int (fun _ _ => rfl)) (fun _ _ => rfl)))
      (pss_cons (ps_fld (pv 3) pe_non rfl)
      (pss_cons (ps_fld (pv 3) (pe_lst pa_nil) rfl)
      (pss_one (ps_ret (pv 1)))))))), ?_⟩
  obtain ⟨a, d, ρ, t, L, rfl, tA, hgo, k⟩ := h
  obtain ⟨own, hA, w⟩ := tA
  obtain ⟨dx, hT⟩ := hA.obj
  have hr0 := w.rootNode.1
  have q := find_get hr0
  have hx := get_mem hr0
  have hnum := get_num hr0
  unfold Tr.rootCanGo at hgo
  rw [Bool.and_eq_true] at hgo
  obtain ⟨c, hc⟩ : ∃ c, (t.get t.root).children = [c] := by
    have := hgo.2
    rw [beq_iff_eq] at this
    match z : (t.get t.root).children, this with
    | [c], _ => exact ⟨c, rfl⟩
  obtain ⟨y, hy, hyn, hyp⟩ := (kids_mem w hx (m := c)).mp (by rw [hc]; exact List.mem_singleton.mpr rfl)
  rw [hnum] at hyp
  have lt : t.root < c := by
    have := (w.par y hy t.root hyp).1
    omega
  obtain ⟨sa, m, g, vv⟩ := tr_some hA q
  obtain ⟨_, ds, ca, ta, ha, as, e, _, _, rh, eh⟩ := hA.at_ _ m
  refine ⟨_, rfl, a, dx, _, rfl, hT, tr_no (by decide +kernel), ⟨a, d, ρ, t, L, rfl, hA, w, ?_⟩⟩
  refine ⟨_, rfl, a, _, dx, _, _, rfl, hT, T.clT, T.nT_states, tr_states, d, rfl, .inl ⟨_, .inl hA.dict⟩, _, rfl, _, Sum.inl (t.root : Int), _, hA.dict, rfl, vv, ?_⟩
  obtain ⟨hA2, fr2⟩ := tr_del hA t.root
  obtain ⟨dx2, hT2⟩ := hA2.obj
  have had : sa ≠ d := fun z => by
    have := hA.dict
    rw [← z, e] at this
    cases this
  have hhd : ha ≠ d := fun z => by
    have := hA.dict
    rw [← z, eh] at this
    cases this
  have e2 : upd H d (.dK (dropK (L.map kvOf) (Sum.inl (t.root : Int)))) sa = some (.ins A.cs.S ds (stF (vo (t.get t.root).parent) (t.get t.root).time ca ta (t.get t.root).kept ha (vo (t.get t.root).visited))) := by
    rw [upd_ne had]
    exact e
  have eh2 : upd H d (.dK (dropK (L.map kvOf) (Sum.inl (t.root : Int)))) ha = some (.lst [vn c]) := by
    rw [upd_ne hhd, eh, hc]
    rfl
  have hy2 : y ∈ (t.del t.root).nodes := List.mem_filter.mpr ⟨hy, by rw [hyn]; simp; omega⟩
  have srt2 : ((t.del t.root).nodes.map fun x => x.number).Pairwise (· < ·) := List.Pairwise.sublist (List.Sublist.map _ List.filter_sublist) w.sorted
  have fy : (t.del t.root).find c = some y := by
    cases z : (t.del t.root).find c with
    | none => exact absurd hyn (find_none_iff.mp z y hy2)
    | some y' => rw [nums_inj srt2 (find_mem' z) hy2 ((find_num' z).trans hyn.symm)]
  obtain ⟨sp, mp, gp, _⟩ := tr_some hA2 fy
  refine ⟨_, rfl, a, _, dx2, _, _, rfl, hT2, T.clT, T.nT_states, tr_states, _, rfl, sa, _, ds, _, _, rfl, e2, T.clS, T.nS_children, st_children, ha, _, 0, _, rfl, rfl, SqL.of eh2, rfl, d, _, rfl, gp, ?_⟩
  obtain ⟨dp, cp, tp, hp, ep, sto⟩ := st_orphan (hA2.at_ _ mp)
  refine ⟨_, rfl, sp, _, dp, _, rfl, ep, T.clS, T.nS_parent, by show 7 < 1000; decide, ?_⟩
  rw [st_put_parent]
  obtain ⟨hA3, fr3⟩ := tr_obj hA2 (sorted_nodup srt2) mp (f := fun x => { x with parent := none }) (fun _ => rfl) sto
  have mp3 : (sp, ({ y with parent := none } : Nd)) ∈ (L.filter fun p => p.2.number != t.root).map (modP y.number fun x => { x with parent := none }) := by
    refine List.mem_map.mpr ⟨_, mp, ?_⟩
    unfold modP
    dsimp only
    rw [if_pos rfl]
  refine ⟨(by show 0 ≤ sizeLine; decide), fun la hla => ?_⟩
  have s4 := same_new (o := .lst []) hla
  have hA4 := hA3.same s4
  have own4 := (own.upd (a := d) (o := .dK (dropK (L.map kvOf) (Sum.inl (t.root : Int))))).upd (a := sp) (o := .ins A.cs.S dp (stF .non y.time cp tp y.kept hp (vo y.visited)))
  have rla := own4.free hla
  obtain ⟨dp2, cp2, tp2, hp2, ep2, stb⟩ := st_bare (hA4.at_ _ mp3) rla upd_same
  refine ⟨_, rfl, sp, _, dp2, _, rfl, ep2, T.clS, T.nS_changes, by show 7 < 1000; decide, ?_⟩
  rw [st_put_changes]
  obtain ⟨hA5, fr5⟩ := tr_obj hA4 (by rw [nums_mod (f := fun x => { x with parent := none }) fun _ => rfl]; exact sorted_nodup srt2) mp3 (f := fun x => { x with changes := [] }) (fun _ => rfl) stb
  refine ⟨_, rfl, ?_⟩
  have eqt : ((t.del t.root).mod y.number fun x => { x with parent := none }).mod y.number (fun x => { x with changes := [] }) = t.delRoot := by
    unfold Tr.delRoot
    rw [hc, hyn]
    unfold Tr.mod
    dsimp only
    rw [List.map_map]
    congr 1
    apply List.map_congr_left
    intro x hx
    show (if (if x.number = c then { x with parent := none } else x).number = c then _ else _) = _
    by_cases cc : x.number = c
    · simp [cc]
    · simp [cc]
  rw [eqt] at hA5
  exact k _ ρ ⟨(own4.same s4).upd, ⟨d, _, hA5⟩, ((fr2.trans fr3).trans (Fr.of_same s4)).trans fr5⟩
end UB
namespace UB
open PySem PySem.Spec PyProof.Rows L2
open Ue03 (Change)
open Mir
/-! ### Tree.forget -/
abbrev s_Tree_forget : Stmt := inClass (top 17) 14
theorem sc_Tree_forget : FnScope ["self", "limit", "deleted", "leaf"] ["self", "limit"] (defScope s_Tree_forget) := ⟨rfl, rfl, rfl, by decide +kernel, rfl, by decide +kernel, by decide +kernel⟩
theorem ok_Tree_forget {P : Program} {w : World} {K : PySem.W.Frag} {mg : Str → Option Value} {base : Heap} {A : Ad} {f : Addr} {fd : FuncData} (F : Fun K "forget" "Tree.forget" s_Tree_forget f fd) (T : Txt K mg A)
    (m_Tree_first_leaf_to_go : MetX P w K mg base CX0 2 A.cs.T "first_leaf_to_go" ["self"] (sp_Tree_first_leaf_to_go K A))
    (m_Tree_delete_leaf : MetX P w K mg base CX0 1 A.cs.T "delete_leaf" ["self", "number"] (sp_Tree_delete_leaf K A))
    (m_Tree_root_can_go : MetX P w K mg base CX0 2 A.cs.T "root_can_go" ["self"] (sp_Tree_root_can_go K A))
    (m_Tree_delete_root : MetX P w K mg base CX0 2 A.cs.T "delete_root" ["self"] (sp_Tree_delete_root K A))
    : FnOk P w K mg base CX0 3 f fd ["self", "limit"] (sp_Tree_forget K A) := by
  have sc := sc_Tree_forget
  refine F.ok sc (fun vs H Q E h => sp_Tree_forget_len h) (fun cdv AA outer s H vs Q E hr h => ?_)
  refine ⟨_, (pss_cons (ps_set (i := 2) sc.nd rfl (Or.inl rfl) (pe_lst pa_nil))
      (pss_cons (ps_set (i := 3) sc.nd rfl (Or.inl rfl) (pe_m0 m_Tree_first_leaf_to_go (pv 0) T.clT hr (by decide) pass0))
      (pss_cons (ps_while PassesOwn.never (PW.pt (pw_and (pt_cmpR op_gt (pe_callB call_lenD (by rfl) T.len PySem.boot_len (pa_cons (pe_fld (pv 0) rfl) pa_nil)) (pv 1) (nomark _)) (pw_and1 (pt_cmpR op_notN (pv 3) pe_non (nomark _))))) (pss_cons (ps_expr (pe_m m_Tree_delete_leaf (pv 0) T.clT hr (by decide) pass0 (pa_cons (pv 3) pa_nil)))
        (pss_cons (ps_expr (pe_bm PySem.F.plainAttrs_list PySem.F.slot_list_append PySem.F.type_list_append mt_append (pv 2) (pa_cons (pv 3) pa_nil)))
        (pss_one (ps_set (i := 3) sc.nd rfl (Or.inl rfl) (pe_m0 m_Tree_first_leaf_to_go (pv 0) T.clT hr (by decide) pass0))))))
      (pss_cons (ps_while PassesOwn.never (PW.pt (pw_and (pt_cmpR op_gt (pe_callB call_lenD (by rfl) T.len PySem.boot_len (pa_cons (pe_fld (pv 0) rfl) pa_nil)) (pv 1) (nomark _)) (pw_and1 (pt_val (pe_m0 m_Tree_root_can_go (pv 0) T.clT hr (by decide) pass0))))) (pss_one (ps_expr (pe_bm PySem.F.plainAttrs_list PySem.F.slot_list_append PySem.F.type_list_append mt_append (pv 2) (pa_cons (pe_m0 m_Tree_delete_root (pv 0) T.clT hr (by decide) pass0) pa_nil)))))
      (pss_one (ps_ret (pv 2))))))), ?_⟩
  obtain ⟨a, d0, ρ, t, L0, n, rfl, tA, k⟩ := h
  -- the tree as it is between the turns
  have acc_len : ∀ (t' : Tr) (l : List Nat), l.length + t'.nodes.length = t.nodes.length → l.length ≤ 100 := fun t' l h => by
    have := tA.wf.count
    omega
  refine ⟨(by show 0 ≤ sizeLine; decide), fun la hla => ?_⟩
  have s0 : Same H (upd H la (.lst [])) := same_new hla
  have f0 : Fr inTree ρ H (give ρ la .lo) (upd H la (.lst [])) := Fr.give hla
  have tA0 : TreeAt A (give ρ la .lo) (upd H la (.lst [])) t a d0 L0 := ⟨tA.own.give, tA.at_.fr (Fr.give (R := fun _ => False) hla) (fun _ _ z => z), tA.wf⟩
  obtain ⟨dx0, hT0⟩ := tA0.at_.obj
  refine ⟨_, rfl, a, dx0, _, rfl, hT0, tr_no (by decide +kernel), ⟨a, d0, _, t, L0, rfl, tA0, fun H1 s1 => ?_⟩⟩
  -- the second loop, from any state of the first one's end
  have second : ∀ (Hc : Hp) (ρc : Rho) (t1 : Tr) (l1 : List Nat) (lv : V), Own ρc Hc → (∃ d L, TrA A.cs ρc Hc t1 a d L) → t1.WF 100 → Fr inTree ρ H ρc Hc → Hc la = some (.lst (nl l1)) → ρc la = some .lo → l1.length + t1.nodes.length = t.nodes.length →
      lessRoots t1.nodes.length t1 n l1 = t.forget n →
      (tSeq (tWhile (tAnd (tTest (tOp (rI0 fun i j => .bl (decide (j < i))) (tCB (fun xs H Q => ∃ a kvs, xs = [V.ref a] ∧ H a = some (.dK kvs) ∧ Q (.int kvs.length) H) (tCons (tFld K (tVar 0) "states") tNil)) (tVar 1))) (tB (tM A.cs.T "root_can_go" (sp_Tree_root_can_go K A) E0 (tVar 0) tNil)))
        (tDrop (tBM K "list" rAppend (tVar 2) (tCons (tM A.cs.T "delete_root" (sp_Tree_delete_root K A) E0 (tVar 0) tNil) tNil)))) (tRet (tVar 2))) { nx := fun _ H' => Q .non H', rt := Q }
        [some (.ref a), some (vn n), some (.ref la), some lv] Hc := by
    intro Hc ρc t1 l1 lv o1 ⟨d1, L1, hA1⟩ w1 fr1 e1 r1 c1 fin
    refine ⟨fun m σ H2 => ∃ (ρ2 : Rho) (t2 : Tr) (l2 : List Nat) (d2 : Addr) (L2 : List (Addr × Nd)), σ = [some (.ref a), some (vn n), some (.ref la), some lv] ∧ Own ρ2 H2 ∧ TrA A.cs ρ2 H2 t2 a d2 L2 ∧ t2.WF 100 ∧ Fr inTree ρ H ρ2 H2 ∧ H2 la = some (.lst (nl l2)) ∧ ρ2 la = some .lo ∧
      l2.length + t2.nodes.length = t.nodes.length ∧ lessRoots t2.nodes.length t2 n l2 = t.forget n ∧ m = t2.nodes.length, ⟨_, ρc, t1, l1, d1, L1, rfl, o1, hA1, w1, fr1, e1, r1, c1, fin, rfl⟩, ?_⟩
    rintro m σ H2 ⟨ρ2, t2, l2, d2, L2, rfl, o2, hA2, w2, fr2, e2, r2, c2, fin2, rfl⟩
    have stop : ¬ (n < t2.nodes.length ∧ t2.rootCanGo = true) → ∀ H3, Same H2 H3 → tRet (tVar 2) { nx := fun _ H' => Q .non H', rt := Q } [some (.ref a), some (vn n), some (.ref la), some lv] H3 := by
      intro c H3 s3
      rw [roots_stop _ c] at fin2
      rw [← fin2] at k
      exact ⟨_, rfl, k H3 (drop ρ2 la) la ⟨own_drop (o2.same s3), ⟨d2, L2, (hA2.same s3).fr (fr_let r2) lo_tree⟩, fr_drop (fr2.trans (Fr.of_same s3)) hla⟩ hla (s3 _ _ e2) drop_same⟩
    obtain ⟨dxl, hTl⟩ := hA2.obj
    have hlen : (L2.map kvOf).length = t2.nodes.length := by rw [List.length_map, ← hA2.nodes, List.length_map]
    refine ⟨_, rfl, a, _, dxl, _, _, rfl, hTl, T.clT, T.nT_states, tr_states, d2, _, rfl, hA2.dict, _, rfl, _, _, rfl, rfl, _, rfl, ?_⟩
    by_cases g1 : n < t2.nodes.length
    · refine if_true_of (decide_eq_true (by omega)) ?_
      obtain ⟨dx2, hT2⟩ := hA2.obj
      refine ⟨_, rfl, a, dx2, _, rfl, hT2, tr_no (by decide +kernel), ⟨a, d2, ρ2, t2, L2, rfl, ⟨o2, hA2, w2⟩, fun H3 s3 => ⟨_, rfl, ?_⟩⟩⟩
      cases g2 : t2.rootCanGo with
      | false => exact if_false_of rfl (stop (fun z => by rw [g2] at z; exact absurd z.2 (by decide)) H3 s3)
      | true =>
        refine if_true_of rfl ⟨_, fun _ _ h => h, ?_⟩
        have hA3 := hA2.same s3
        obtain ⟨dx3, hT3⟩ := hA3.obj
        refine ⟨_, rfl, .inl ⟨rfl, _, SqL.of (s3 _ _ e2)⟩, _, rfl, a, dx3, _, rfl, hT3, tr_no (by decide +kernel), ⟨a, d2, ρ2, t2, L2, rfl, ⟨o2.same s3, hA3, w2⟩, g2, fun H4 ρ4 new => ?_⟩⟩
        obtain ⟨o4, ⟨d4, L4, hA4⟩, fr4⟩ := new
        obtain ⟨e4, r4⟩ := lo_kept fr4 (s3 _ _ e2) r2
        refine ⟨la, _, _, rfl, rfl, e4, (by rw [nl_len]; have := acc_len t2 l2 c2; exact size_lt (by omega)), ?_⟩
        have hl := delRoot_len w2 g2
        refine ⟨_, by omega, ρ4, t2.delRoot, l2 ++ [t2.root], d4, L4, rfl, o4.upd, hA4.fr (Fr.upd (R := isLo) r4 rfl) lo_tree, w2.delRoot g2, fr_loc ((fr2.trans (Fr.of_same s3)).trans fr4) hla, ?_, r4, ?_, ?_, rfl⟩
        · rw [upd_same, nl_app]
          rfl
        · rw [List.length_append]
          show l2.length + 1 + _ = _
          omega
        · rw [← roots_step w2 g1 g2]
          exact fin2
    · refine if_false_of (decide_eq_false (by omega)) ?_
      exact if_false_of rfl (stop (fun z => g1 z.1) H2 (Same.refl H2))
  -- the first loop
  refine ⟨fun m σ Hc => ∃ (ρ2 : Rho) (t2 : Tr) (l2 : List Nat) (d2 : Addr) (L2 : List (Addr × Nd)), σ = [some (.ref a), some (vn n), some (.ref la), some (vo t2.firstLeaf)] ∧ Own ρ2 Hc ∧ TrA A.cs ρ2 Hc t2 a d2 L2 ∧ t2.WF 100 ∧ Fr inTree ρ H ρ2 Hc ∧ Hc la = some (.lst (nl l2)) ∧ ρ2 la = some .lo ∧
    l2.length + t2.nodes.length = t.nodes.length ∧ lessLeaves t2.nodes.length t2 n l2 = lessLeaves t.nodes.length t n [] ∧ m = t2.nodes.length,
    ⟨_, _, t, [], d0, L0, rfl, tA0.own.same s1, tA0.at_.same s1, tA.wf, f0.trans (Fr.of_same s1), s1 _ _ upd_same, give_same, by simp, rfl, rfl⟩, ?_⟩
  rintro m σ H2 ⟨ρ2, t2, l2, d2, L2, rfl, o2, hA2, w2, fr2, e2, r2, c2, fin2, rfl⟩
  have leave : ¬ n < t2.nodes.length ∨ t2.firstLeaf = none → (tSeq (tWhile (tAnd (tTest (tOp (rI0 fun i j => .bl (decide (j < i))) (tCB (fun xs H Q => ∃ a kvs, xs = [V.ref a] ∧ H a = some (.dK kvs) ∧ Q (.int kvs.length) H) (tCons (tFld K (tVar 0) "states") tNil)) (tVar 1))) (tB (tM A.cs.T "root_can_go" (sp_Tree_root_can_go K A) E0 (tVar 0) tNil)))
        (tDrop (tBM K "list" rAppend (tVar 2) (tCons (tM A.cs.T "delete_root" (sp_Tree_delete_root K A) E0 (tVar 0) tNil) tNil)))) (tRet (tVar 2))) { nx := fun _ H' => Q .non H', rt := Q }
        [some (.ref a), some (vn n), some (.ref la), some (vo t2.firstLeaf)] H2 := by
    intro c
    rw [leaves_stop _ c] at fin2
    refine second H2 ρ2 t2 l2 _ o2 ⟨d2, L2, hA2⟩ w2 fr2 e2 r2 c2 ?_
    unfold Tr.forget
    rw [← fin2]
  obtain ⟨dxl, hTl⟩ := hA2.obj
  have hlen : (L2.map kvOf).length = t2.nodes.length := by rw [List.length_map, ← hA2.nodes, List.length_map]
  refine ⟨_, rfl, a, _, dxl, _, _, rfl, hTl, T.clT, T.nT_states, tr_states, d2, _, rfl, hA2.dict, _, rfl, _, _, rfl, rfl, _, rfl, ?_⟩
  by_cases g1 : n < t2.nodes.length
  · refine if_true_of (decide_eq_true (by omega)) ?_
    refine ⟨_, rfl, rfl, _, rfl, ?_⟩
    cases g2 : t2.firstLeaf with
    | none =>
      rw [g2] at leave
      exact if_false_of rfl (leave (.inr rfl))
    | some x =>
      obtain ⟨y, p, h1, h2, h3, h4, h5⟩ := firstLeaf_some w2 g2
      refine if_true_of rfl ⟨_, fun _ _ h => h, ?_⟩
      obtain ⟨dx2, hT2⟩ := hA2.obj
      refine ⟨_, rfl, a, dx2, _, rfl, hT2, tr_no (by decide +kernel), _, rfl, ⟨a, d2, ρ2, t2, L2, x, p, y, rfl, ⟨o2, hA2, w2⟩, h1, h5, h2, fun H4 ρ4 new => ?_⟩⟩
      obtain ⟨o4, ⟨d4, L4, hA4⟩, fr4⟩ := new
      obtain ⟨e4, r4⟩ := lo_kept fr4 e2 r2
      refine ⟨_, rfl, .inl ⟨rfl, _, SqL.of e4⟩, _, rfl, la, _, _, rfl, rfl, e4, (by rw [nl_len]; have := acc_len t2 l2 c2; exact size_lt (by omega)), ?_⟩
      have o5 := o4.upd (a := la) (o := .lst (nl l2 ++ [vn x]))
      have hA5 := hA4.fr (Fr.upd (R := isLo) (o := .lst (nl l2 ++ [vn x])) r4 rfl) lo_tree
      have fr5 := fr_loc (o := .lst (nl l2 ++ [vn x])) (fr2.trans fr4) hla
      obtain ⟨dx5, hT5⟩ := hA5.obj
      have w5 := w2.delLeaf h1 h5 h2 h3
      have hl := delLeaf_len w2 h1
      refine ⟨_, rfl, a, dx5, _, rfl, hT5, tr_no (by decide +kernel), ⟨a, d4, ρ4, t2.delLeaf x, L4, rfl, ⟨o5, hA5, w5⟩, fun H6 s6 => ?_⟩⟩
      refine ⟨_, by omega, ρ4, t2.delLeaf x, l2 ++ [x], d4, L4, rfl, o5.same s6, hA5.same s6, w5, fr5.trans (Fr.of_same s6), s6 _ _ (by rw [upd_same, nl_app]; rfl), r4, ?_, ?_, rfl⟩
      · rw [List.length_append]
        show l2.length + 1 + _ = _
        omega
      · rw [← leaves_step w2 g1 g2]
        exact fin2
  · refine if_false_of (decide_eq_false (by omega)) ?_
    exact if_false_of rfl (leave (.inl g1))
end UB
namespace UB
open PySem PySem.Spec PyProof.Rows L2
open Ue03 (Change)
open Mir
/-! ### are_bytes -/
abbrev s_are_bytes : Stmt := top 22
theorem sc_are_bytes : FnScope ["numbers"] ["numbers"] (defScope s_are_bytes) := ⟨rfl, rfl, rfl, by decide +kernel, rfl, by decide +kernel, by decide +kernel⟩
theorem ok_are_bytes {P : Program} {w : World} {K : PySem.W.Frag} {mg : Str → Option Value} {base : Heap} {A : Ad} {f : Addr} {fd : FuncData} (F : Fun K "are_bytes" "are_bytes" s_are_bytes f fd) (T : Txt K mg A)
    : FnOk P w K mg base CX0 1 f fd ["numbers"] (sp_are_bytes K A) := by
  have sc := sc_are_bytes
  refine F.ok sc (fun vs H Q E h => sp_are_bytes_len h) (fun cdv AA outer s H vs Q E hr h => ?_)
  refine ⟨_, (pss_one (ps_ret (pe_cmpR op_le (pe_callBK (cr_def_max rfl) (by rfl) T.max (by decide +kernel) (pa_cons (pv 0) pa_nil) (pk_cons pe_int pk_nil)) (C8.pe_gc rfl T.c_GREATEST_BYTE) (nomark _)))), ?_⟩
  obtain ⟨a, l, rfl, hl, k⟩ := h
  have fin : ∀ m : Int, decide (m ≤ 255) = isB l → Q (.bl (decide (m ≤ 255))) H := by
    intro m e
    rw [e]
    exact k
  refine ⟨_, rfl, a, _, .int 0, rfl, rfl, (by rw [← nl_ints]; exact hl), fun e => ?_, fun m hm hle => ?_⟩
  · have e2 : l = [] := by simpa using e
    subst e2
    exact ⟨_, _, rfl, rfl, fin 0 (by simp [isB])⟩
  · obtain ⟨n, hn, rfl⟩ := ints_mem hm
    refine ⟨_, _, rfl, rfl, fin n ?_⟩
    unfold isB
    by_cases c : n ≤ 255
    · rw [decide_eq_true (by omega)]
      symm
      rw [List.all_eq_true]
      intro y hy
      have := Int.ofNat_le.mp (hle _ (List.mem_map.mpr ⟨y, hy, rfl⟩))
      exact decide_eq_true (by omega)
    · rw [decide_eq_false (by omega)]
      symm
      rw [Bool.eq_false_iff]
      intro z
      rw [List.all_eq_true] at z
      exact c (of_decide_eq_true (z n hn))
end UB
namespace UB
open PySem PySem.Spec PyProof.Rows L2
open Ue03 (Change)
open Mir
/-! ### counted -/
abbrev s_counted : Stmt := top 23
theorem sc_counted : FnScope ["numbers"] ["numbers"] (defScope s_counted) := ⟨rfl, rfl, rfl, by decide +kernel, rfl, by decide +kernel, by decide +kernel⟩
theorem ok_counted {P : Program} {w : World} {K : PySem.W.Frag} {mg : Str → Option Value} {base : Heap} {A : Ad} {f : Addr} {fd : FuncData} (F : Fun K "counted" "counted" s_counted f fd) (T : Txt K mg A)
    : FnOk P w K mg base CX0 1 f fd ["numbers"] (sp_counted K A) := by
  have sc := sc_counted
  refine F.ok sc (fun vs H Q E h => sp_counted_len h) (fun cdv AA outer s H vs Q E hr h => ?_)
  refine ⟨_, (pss_one (ps_ret (pe_op op_cat (pe_lst (pa_cons (pe_callB call_len_seq (by rfl) T.len PySem.boot_len (pa_cons (pv 0) pa_nil)) pa_nil)) (pv 0)))), ?_⟩
  obtain ⟨a, l, rfl, hl, hz, k⟩ := h
  refine ⟨_, rfl, a, _, rfl, .inl (SqL.of hl), (by show 1 ≤ sizeLine; decide), fun q1 h1 => ?_⟩
  rw [len_v]
  have s1 : Same H (upd H q1 (.lst [vn l.length])) := same_new h1
  refine ⟨_, rfl, q1, a, _, _, rfl, rfl, upd_same, s1 _ _ hl, ?_, fun q2 h2 => ?_⟩
  · rw [nl_len]
    exact size_le (by show 1 + l.length ≤ 16000000; omega)
  · exact k q2 _ (s1.free h2) (s1.trans (same_new h2)) upd_same
end UB
namespace UB
open PySem PySem.Spec PyProof.Rows L2
open Ue03 (Change)
open Mir
/-! ### Group.__init__ -/
abbrev s_Group_init : Stmt := inClass (top 24) 0
theorem sc_Group_init : FnScope ["self", "text"] ["self", "text"] (defScope s_Group_init) := ⟨rfl, rfl, rfl, by decide +kernel, rfl, by decide +kernel, by decide +kernel⟩
theorem ok_Group_init {P : Program} {w : World} {K : PySem.W.Frag} {mg : Str → Option Value} {base : Heap} {A : Ad} {f : Addr} {fd : FuncData} (F : Fun K "__init__" "Group.__init__" s_Group_init f fd) (T : Txt K mg A)
    : FnOk P w K mg base CX0 1 f fd ["self", "text"] (sp_Group_init K A) := by
  have sc := sc_Group_init
  refine F.ok sc (fun vs H Q E h => sp_Group_init_len h) (fun cdv AA outer s H vs Q E hr h => ?_)
  refine ⟨_, (pss_cons (ps_fld (pv 0) (pe_lst pa_nil) rfl)
      (pss_one (ps_fld (pv 0) (pv 1) rfl))), ?_⟩
  obtain ⟨p, dx, ta, rfl, hp, k⟩ := h
  refine ⟨(by show 0 ≤ sizeLine; decide), fun ca h1 => ?_⟩
  have hpc : p ≠ ca := ne_of_none hp h1
  refine ⟨_, rfl, p, A.cs.G, dx, _, rfl, (by rw [upd_ne hpc]; exact hp), T.clG, T.nG_changes, by decide, ?_⟩
  refine ⟨_, rfl, _, rfl, p, A.cs.G, dx, _, rfl, upd_same, T.clG, T.nG_text, by show 1 < 1000; decide, ?_⟩
  refine k _ ca h1 ?_ ?_ fun b o e hb => ?_
  · rw [upd_same]
    exact congrArg (fun q => some (HO.ins A.cs.G dx q)) (gr_new (.ref ca) (.ref ta))
  · rw [upd_ne (Ne.symm hpc), upd_ne (Ne.symm hpc), upd_same]
  · rw [upd_ne hb, upd_ne hb, upd_ne (ne_of_none e h1)]
    exact e
end UB
namespace UB
open PySem PySem.Spec PyProof.Rows L2
open Ue03 (Change)
open Mir
/-! ### Group.take -/
abbrev s_Group_take : Stmt := inClass (top 24) 1
theorem sc_Group_take : FnScope ["self", "change", "text"] ["self", "change", "text"] (defScope s_Group_take) := ⟨rfl, rfl, rfl, by decide +kernel, rfl, by decide +kernel, by decide +kernel⟩
theorem ok_Group_take {P : Program} {w : World} {K : PySem.W.Frag} {mg : Str → Option Value} {base : Heap} {A : Ad} {f : Addr} {fd : FuncData} (F : Fun K "take" "Group.take" s_Group_take f fd) (T : Txt K mg A)
    : FnOk P w K mg base CX0 1 f fd ["self", "change", "text"] (sp_Group_take K A) := by
  have sc := sc_Group_take
  refine F.ok sc (fun vs H Q E h => sp_Group_take_len h) (fun cdv AA outer s H vs Q E hr h => ?_)
  refine ⟨_, (pss_cons (ps_expr (pe_bm PySem.F.plainAttrs_list PySem.F.slot_list_append PySem.F.type_list_append mt_append (pe_fld (pv 0) rfl) (pa_cons (pv 1) pa_nil)))
      (pss_one (ps_fld (pv 0) (pv 2) rfl))), ?_⟩
  obtain ⟨a, ca, ta, ρ, g, c, l, rfl, hg, hc, hl, own, hz, k⟩ := h
  obtain ⟨r, dx, la, ta0, as, e, rc, ec, cs, lt⟩ := hg
  refine ⟨_, rfl, a, _, dx, _, _, rfl, e, T.clG, T.nG_changes, gr_changes, .inl ⟨rfl, _, SqL.of ec⟩, _, rfl, la, _, _, rfl, rfl, ec, ?_, ?_⟩
  · rw [List.length_map, cs.len]
    exact size_lt (by omega)
  have f1 : Fr grpR ρ H ρ (upd H la (.lst (as.map V.ref ++ [.ref ca]))) := Fr.upd rc trivial
  have hal : a ≠ la := fun z => by
    rw [z, rc] at r
    cases r
  have e1 : upd H la (.lst (as.map V.ref ++ [.ref ca])) a = some (.ins A.cs.G dx (grF la ta0)) := by
    rw [upd_ne hal]
    exact e
  refine ⟨_, rfl, _, rfl, a, _, dx, _, rfl, e1, T.clG, T.nG_text, by show 2 < 1000; decide, ?_⟩
  rw [show putF "text" (V.ref ta) (grF la ta0) = grF la ta from gr_put_text]
  have f2 := f1.trans (Fr.upd (R := grpR) (H := upd H la (.lst (as.map V.ref ++ [.ref ca]))) (o := .ins A.cs.G dx (grF la ta)) r trivial)
  refine k _ ⟨r, dx, la, ta, as ++ [ca], upd_same, rc, ?_, ChgsA.snoc (hc.fr f2) (cs.fr f2), hl.fr f2⟩ own.upd.upd f2
  rw [upd_ne (Ne.symm hal), upd_same, List.map_append]
  rfl
end UB
namespace UB
open PySem PySem.Spec PyProof.Rows L2
open Ue03 (Change)
open Mir
/-! ### Session.__init__ -/
abbrev s_Session_init : Stmt := inClass (top 25) 0
theorem sc_Session_init : FnScope ["self"] ["self"] (defScope s_Session_init) := ⟨rfl, rfl, rfl, by decide +kernel, rfl, by decide +kernel, by decide +kernel⟩
theorem ok_Session_init {P : Program} {w : World} {K : PySem.W.Frag} {mg : Str → Option Value} {base : Heap} {A : Ad} {f : Addr} {fd : FuncData} (F : Fun K "__init__" "Session.__init__" s_Session_init f fd) (T : Txt K mg A)
    (m_Tree_init : MakX P w K mg base CX0 3 "Tree" A.cs.T ["self", "text"] (sp_Tree_init K A))
    : FnOk P w K mg base CX0 5 f fd ["self"] (sp_Session_init K A) := by
  have sc := sc_Session_init
  refine F.ok sc (fun vs H Q E h => sp_Session_init_len h) (fun cdv AA outer s H vs Q E hr h => ?_)
  refine ⟨_, (pss_cons (ps_fld (pv 0) (pe_n m_Tree_init hr (by decide) pass0 (pa_cons (pe_lst pa_nil) pa_nil)) rfl)
      (pss_cons (ps_fld (pv 0) pe_int rfl)
      (pss_one (ps_fld (pv 0) pe_non rfl)))), ?_⟩
  obtain ⟨a, dx, ρ, rfl, ha, own, ra, k⟩ := h
  have own0 : Own (give ρ a .se) H := fun b r e => by
    by_cases z : b = a
    · subst z
      exact ⟨_, ha⟩
    · rw [give_ne z] at e
      exact own b r e
  refine ⟨(by show 0 ≤ sizeLine; decide), fun la hla => fun x dxx hx hdx hne => ?_⟩
  have s0 : Same H (upd H la (.lst [])) := same_new hla
  have s1 := s0.trans (same_new (o := .own x) hdx)
  have hx1 : upd (upd H la (.lst [])) dxx (.own x) x = none := by
    rw [upd_ne (Ne.symm hne)]
    exact hx
  have s2 := s1.trans (same_new (o := .ins A.cs.T dxx []) hx1)
  have ela : upd (upd (upd H la (.lst [])) dxx (.own x)) x (.ins A.cs.T dxx []) la = some (.lst (nl [])) := same_new hx1 _ _ (same_new hdx _ _ upd_same)
  refine ⟨x, dxx, la, give ρ a .se, [], rfl, upd_same, own0.same s2, own0.free (s0.free hx), ⟨own0.free hla, ela⟩, fun H1 ρ1 o1 new but => ⟨rfl, ?_⟩⟩
  obtain ⟨d1, L1, hA1⟩ := new
  have hxH := s0.free hx
  obtain ⟨e1, r1⟩ := but a _ (s2 _ _ ha) (ne_of_none ha hxH)
  rw [give_same] at r1
  refine ⟨_, rfl, a, _, dx, _, rfl, e1, T.clE, T.nE_tree, by decide, ?_⟩
  refine ⟨_, rfl, a, _, dx, _, rfl, upd_same, T.clE, T.nE_clock, by show 1 < 1000; decide, ?_⟩
  refine ⟨_, rfl, a, _, dx, _, rfl, upd_same, T.clE, T.nE_group, by show 2 < 1000; decide, ?_⟩
  rw [upd_upd, upd_upd]
  have ef : putF "group" .non (putF "clock" (V.int 0) (putF "tree" (.ref x) [])) = seF x 0 .non := se_new (.ref x) (.int 0) .non
  show Q .non (upd H1 a (.ins A.cs.E dx (putF "group" .non (putF "clock" (V.int 0) (putF "tree" (.ref x) [])))))
  rw [ef]
  obtain ⟨o2, hS2, f2⟩ := se_field (A := A) (s := Se.fresh) (gv' := .non) (g' := none) (dx := dx) (c := 0) r1 o1 hA1 rfl
  refine k _ ρ1 o2 hS2 fun b o eb hb => ?_
  obtain ⟨h1, h2⟩ := but b o (s2 b o eb) (ne_of_none eb hxH)
  refine ⟨?_, h2.trans (give_ne hb)⟩
  rw [upd_ne hb]
  exact h1
end UB
namespace UB
open PySem PySem.Spec PyProof.Rows L2
open Ue03 (Change)
open Mir
/-! ### Session.refuse_open_group -/
abbrev s_Session_refuse_open_group : Stmt := inClass (top 25) 1
theorem sc_Session_refuse_open_group : FnScope ["self"] ["self"] (defScope s_Session_refuse_open_group) := ⟨rfl, rfl, rfl, by decide +kernel, rfl, by decide +kernel, by decide +kernel⟩
theorem ok_Session_refuse_open_group {P : Program} {w : World} {K : PySem.W.Frag} {mg : Str → Option Value} {base : Heap} {A : Ad} {f : Addr} {fd : FuncData} (F : Fun K "refuse_open_group" "Session.refuse_open_group" s_Session_refuse_open_group f fd) (T : Txt K mg A)
    (r_WrongForGroup : RaiseC P w K mg base A.CR "WrongForGroup" (-9))
    : FnOk P w K mg base (L2.CX P w) 4 f fd ["self"] (sp_Session_refuse_open_group K A) := by
  have sc := sc_Session_refuse_open_group
  refine F.okX sc (fun vs H Q E h => sp_Session_refuse_open_group_len h) (fun cdv AA outer s H vs Q E hr h => ?_)
  have tk0 : Takes (cxOf (L2.CX P w) P w K mg base ["self"] "Session.refuse_open_group" (defScope s_Session_refuse_open_group) f cdv AA outer s H E) (fun cls d _ H => E cls d H) := takes_of rfl rfl rfl rfl
  refine ⟨_, (pss_one (ps_if (pt_cmpR op_notN (pe_fld (pv 0) rfl) pe_non (nomark _)) (pss_one (ps_rz r_WrongForGroup rfl hr (by decide) tk0)) pss_nil)), ?_⟩
  obtain ⟨a, ρ, s, rfl, ⟨r, dx, ta, d, L, gv, e, hA, hg⟩, k1, k2⟩ := h
  cases q : s.group with
  | none =>
    rw [q] at hg
    have hg' : gv = .non := hg
    subst hg'
    refine ⟨_, rfl, a, _, dx, _, _, rfl, e, T.clE, T.nE_group, se_group, rfl, _, rfl, if_false_of rfl ?_⟩
    exact k1 q
  | some g =>
    rw [q] at hg
    obtain ⟨ga, rfl, _⟩ := hg
    refine ⟨_, rfl, a, _, dx, _, _, rfl, e, T.clE, T.nE_group, se_group, rfl, _, rfl, if_true_of rfl ?_⟩
    exact k2 (by rw [q]; rfl)
end UB
namespace UB
open PySem PySem.Spec PyProof.Rows L2
open Ue03 (Change)
open Mir
/-! ### Session.current_text -/
abbrev s_Session_current_text : Stmt := inClass (top 25) 2
theorem sc_Session_current_text : FnScope ["self"] ["self"] (defScope s_Session_current_text) := ⟨rfl, rfl, rfl, by decide +kernel, rfl, by decide +kernel, by decide +kernel⟩
theorem ok_Session_current_text {P : Program} {w : World} {K : PySem.W.Frag} {mg : Str → Option Value} {base : Heap} {A : Ad} {f : Addr} {fd : FuncData} (F : Fun K "current_text" "Session.current_text" s_Session_current_text f fd) (T : Txt K mg A)
    (m_Tree_current_state : MetX P w K mg base CX0 1 A.cs.T "current_state" ["self"] (sp_Tree_current_state K A))
    : FnOk P w K mg base CX0 2 f fd ["self"] (sp_Session_current_text K A) := by
  have sc := sc_Session_current_text
  refine F.ok sc (fun vs H Q E h => sp_Session_current_text_len h) (fun cdv AA outer s H vs Q E hr h => ?_)
  refine ⟨_, (pss_cons (ps_if (pt_cmpR op_notN (pe_fld (pv 0) rfl) pe_non (nomark _)) (pss_one (ps_ret (pe_fld (pe_fld (pv 0) rfl) rfl))) pss_nil)
      (pss_one (ps_ret (pe_fld (pe_m0 m_Tree_current_state (pe_fld (pv 0) rfl) T.clT hr (by decide) pass0) rfl)))), ?_⟩
  obtain ⟨a, ρ, s, rfl, ⟨r, dx, ta, d, L, gv, e, hA, hg⟩, hc, k⟩ := h
  unfold Se.text at k
  cases q : s.group with
  | none =>
    rw [q] at hg k
    have hg' : gv = .non := hg
    subst hg'
    refine ⟨_, rfl, a, _, dx, _, _, rfl, e, T.clE, T.nE_group, se_group, rfl, _, rfl, if_false_of rfl ?_⟩
    obtain ⟨dt, hT⟩ := hA.obj
    refine ⟨_, rfl, a, _, dx, _, _, rfl, e, T.clE, T.nE_tree, se_tree, ta, dt, _, rfl, hT, tr_no (by decide +kernel), ⟨ta, d, ρ, s.tree, L, _, rfl, hA, find_get hc, fun sb mb => ?_⟩⟩
    obtain ⟨_, ds, cb, tb, hb, as, eb, _, lb, _⟩ := hA.at_ _ mb
    exact ⟨sb, _, ds, _, _, rfl, eb, T.clS, T.nS_text, st_text, k tb lb⟩
  | some g =>
    rw [q] at hg k
    obtain ⟨ga, rfl, _, dg, cg, tg, as, eg, _, _, _, lg⟩ := hg
    refine ⟨_, rfl, a, _, dx, _, _, rfl, e, T.clE, T.nE_group, se_group, rfl, _, rfl, if_true_of rfl ?_⟩
    exact ⟨_, rfl, a, _, dx, _, _, rfl, e, T.clE, T.nE_group, se_group, ga, _, dg, _, _, rfl, eg, T.clG, T.nG_text, gr_text, k tg lg⟩
end UB
namespace UB
open PySem PySem.Spec PyProof.Rows L2
open Ue03 (Change)
open Mir
/-! ### Session.where -/
abbrev s_Session_where : Stmt := inClass (top 25) 3
theorem sc_Session_where : FnScope ["self"] ["self"] (defScope s_Session_where) := ⟨rfl, rfl, rfl, by decide +kernel, rfl, by decide +kernel, by decide +kernel⟩
theorem ok_Session_where {P : Program} {w : World} {K : PySem.W.Frag} {mg : Str → Option Value} {base : Heap} {A : Ad} {f : Addr} {fd : FuncData} (F : Fun K "where" "Session.where" s_Session_where f fd) (T : Txt K mg A)
    (m_Session_current_text : MetX P w K mg base CX0 2 A.cs.E "current_text" ["self"] (sp_Session_current_text K A))
    : FnOk P w K mg base CX0 3 f fd ["self"] (sp_Session_where K A) := by
  have sc := sc_Session_where
  refine F.ok sc (fun vs H Q E h => sp_Session_where_len h) (fun cdv AA outer s H vs Q E hr h => ?_)
  refine ⟨_, (pss_one (ps_ret (pe_lst (pa_cons (pe_fld (pe_fld (pv 0) rfl) rfl) (pa_cons (pe_callB call_len_seq (by rfl) T.len PySem.boot_len (pa_cons (pe_m0 m_Session_current_text (pv 0) T.clE hr (by decide) pass0) pa_nil)) pa_nil))))), ?_⟩
  obtain ⟨a, ρ, s, rfl, hS, hc, k⟩ := h
  have hS0 := hS
  obtain ⟨r, dx, ta, d, L, gv, e, hA, hg⟩ := hS
  obtain ⟨dt, hT⟩ := hA.obj
  refine ⟨_, rfl, a, _, dx, _, _, rfl, e, T.clE, T.nE_tree, se_tree, ta, _, dt, _, _, rfl, hT, T.clT, T.nT_current, tr_current, ?_⟩
  refine ⟨_, rfl, a, dx, _, rfl, e, se_no (by decide +kernel), ⟨a, ρ, s, rfl, hS0, hc, fun tb lb => ?_⟩⟩
  refine ⟨tb, _, rfl, .inl (SqL.of lb.2), (by show 2 ≤ sizeLine; decide), fun p hp => ?_⟩
  exact disp k (by rw [len_v]; rfl) hp
end UB
namespace UB
open PySem PySem.Spec PyProof.Rows L2
open Ue03 (Change)
open Mir
/-! ### Session.move -/
abbrev s_Session_move : Stmt := inClass (top 25) 4
theorem sc_Session_move : FnScope ["self", "number", "way_up", "turn", "way_down"] ["self", "number"] (defScope s_Session_move) := ⟨rfl, rfl, rfl, by decide +kernel, rfl, by decide +kernel, by decide +kernel⟩
theorem ok_Session_move {P : Program} {w : World} {K : PySem.W.Frag} {mg : Str → Option Value} {base : Heap} {A : Ad} {f : Addr} {fd : FuncData} (F : Fun K "move" "Session.move" s_Session_move f fd) (T : Txt K mg A)
    (m_Tree_path : MetX P w K mg base CX0 2 A.cs.T "path" ["self", "from_state", "to_state"] (sp_Tree_path K A))
    (m_Tree_visit : MetX P w K mg base CX0 2 A.cs.T "visit" ["self", "number"] (sp_Tree_visit K A))
    (m_Session_current_text : MetX P w K mg base CX0 2 A.cs.E "current_text" ["self"] (sp_Session_current_text K A))
    : FnOk P w K mg base CX0 4 f fd ["self", "number"] (sp_Session_move K A) := by
  have sc := sc_Session_move
  refine F.ok sc (fun vs H Q E h => sp_Session_move_len h) (fun cdv AA outer s H vs Q E hr h => ?_)
  refine ⟨_, (pss_cons (ps_asg (pe_m m_Tree_path (pe_fld (pv 0) rfl) T.clT hr (by decide) pass0 (pa_cons (pe_fld (pe_fld (pv 0) rfl) rfl) (pa_cons (pv 1) pa_nil))) (pg_tup rfl (pgs_cons (pg_name (i := 2) sc.nd rfl (Or.inl rfl)) (pgs_cons (pg_name (i := 3) sc.nd rfl (Or.inl rfl)) (pgs_cons (pg_name (i := 4) sc.nd rfl (Or.inl rfl)) pgs_nil)))))
      (pss_cons (ps_expr (pe_m m_Tree_visit (pe_fld (pv 0) rfl) T.clT hr (by decide) pass0 (pa_cons (pv 1) pa_nil)))
      (pss_one (ps_ret (pe_lst (pa_cons (pe_callB call_len_seq (by rfl) T.len PySem.boot_len (pa_cons (pv 2) pa_nil)) (pa_cons (pe_callB call_len_seq (by rfl) T.len PySem.boot_len (pa_cons (pv 4) pa_nil)) (pa_cons (pe_callB call_len_seq (by rfl) T.len PySem.boot_len (pa_cons (pe_m0 m_Session_current_text (pv 0) T.clE hr (by decide) pass0) pa_nil)) pa_nil)))))))), ?_⟩
  obtain ⟨a, ρ, s, n, x, rfl, sa, hn, q, k⟩ := h
  obtain ⟨own, hS, w⟩ := sa
  have hS0 := hS
  obtain ⟨r, dx, ta, d, L, gv, e, hA, hg⟩ := hS
  obtain ⟨dt, hT⟩ := hA.obj
  refine ⟨_, rfl, a, _, dx, _, _, rfl, e, T.clE, T.nE_tree, se_tree, ta, dt, _, rfl, hT, tr_no (by decide +kernel), _, rfl, a, _, dx, _, _, rfl, e, T.clE, T.nE_tree, se_tree, ta, _, dt, _, _, rfl, hT, T.clT, T.nT_current, tr_current, _, rfl,
    ⟨ta, d, ρ, s.tree, L, s.tree.current, n, _, x, rfl, ⟨own, hA, w.tree⟩, find_get w.tree.here, q, fun H1 p u wd s1 hu hw hne ep eu ew => ?_⟩⟩
  refine ⟨p, _, rfl, SqT.of ep, rfl, _, _, rfl, _, _, rfl, _, _, rfl, rfl, ?_⟩
  have e1 := s1 _ _ e
  have hA1 := hA.same s1
  obtain ⟨dt1, hT1⟩ := hA1.obj
  refine ⟨_, rfl, a, _, dx, _, _, rfl, e1, T.clE, T.nE_tree, se_tree, ta, dt1, _, rfl, hT1, tr_no (by decide +kernel), _, rfl, ⟨ta, d, ρ, s.tree, L, n, x, rfl, ⟨own.same s1, hA1, w.tree⟩, q, fun H2 ρ2 new => ?_⟩⟩
  obtain ⟨o2, ⟨d2, L2', hA2⟩, f2⟩ := new
  have hS2 := se_with f2 r e1 (hg.same s1) hA2
  have eu2 := (f2.keep eu (own.free hu)).1
  have ew2 := (f2.keep ew (own.free hw)).1
  refine ⟨_, rfl, u, _, rfl, .inl (SqL.of eu2), _, rfl, wd, _, rfl, .inl (SqL.of ew2), ?_⟩
  have hS2' := hS2
  obtain ⟨r2, dx2, ta2, d2', L2'', gv2, e2, _, _⟩ := hS2
  have hv := visit_find (t := s.tree) (n := n) (m := n)
  refine ⟨_, rfl, a, dx2, _, rfl, e2, se_no (by decide +kernel), ⟨a, ρ2, { s with tree := s.tree.visit n }, rfl, hS2', ?_, fun tb lb => ?_⟩⟩
  · show ((s.tree.visit n).find n).isSome = true
    rw [hv.1, q]
    rfl
  · refine ⟨tb, _, rfl, .inl (SqL.of lb.2), (by show 3 ≤ sizeLine; decide), fun pp hpp => ?_⟩
    refine disp (resl o2 hS2' ((Fr.of_same s1).trans f2.all) k) ?_ hpp
    have ht : ({ s with tree := s.tree.visit n } : Se).text.length = (s.tree.get n).text.length := by
      unfold Se.text
      rw [hn]
      show ((s.tree.visit n).get n).text.length = _
      rw [hv.2]
    rw [len_v, len_v, len_v, ht]
    rfl
end UB
namespace UB
open PySem PySem.Spec PyProof.Rows L2
open Ue03 (Change)
open Mir
/-! ### Session.move_in_order -/
abbrev s_Session_move_in_order : Stmt := inClass (top 25) 5
theorem sc_Session_move_in_order : FnScope ["self", "numbers", "n", "number"] ["self", "numbers", "n"] (defScope s_Session_move_in_order) := ⟨rfl, rfl, rfl, by decide +kernel, rfl, by decide +kernel, by decide +kernel⟩
theorem ok_Session_move_in_order {P : Program} {w : World} {K : PySem.W.Frag} {mg : Str → Option Value} {base : Heap} {A : Ad} {f : Addr} {fd : FuncData} (F : Fun K "move_in_order" "Session.move_in_order" s_Session_move_in_order f fd) (T : Txt K mg A)
    (r_OutOfRange : RaiseC P w K mg base A.CR "OutOfRange" (-1))
    (r_NowhereToGo : RaiseC P w K mg base A.CR "NowhereToGo" (-7))
    (m_Session_move : MetX P w K mg base CX0 4 A.cs.E "move" ["self", "number"] (sp_Session_move K A))
    : FnOk P w K mg base (L2.CX P w) 5 f fd ["self", "numbers", "n"] (sp_Session_move_in_order K A) := by
  have sc := sc_Session_move_in_order
  refine F.okX sc (fun vs H Q E h => sp_Session_move_in_order_len h) (fun cdv AA outer s H vs Q E hr h => ?_)
  have tk0 : Takes (cxOf (L2.CX P w) P w K mg base ["self", "numbers", "n", "number"] "Session.move_in_order" (defScope s_Session_move_in_order) f cdv AA outer s H E) (fun cls d _ H => E cls d H) := takes_of rfl rfl rfl rfl
  refine ⟨_, (pss_cons (ps_if (pt_cmpR op_eq (pv 2) pe_int (nomark _)) (pss_one (ps_rz r_OutOfRange rfl hr (by decide) tk0)) pss_nil)
      (pss_cons (ps_if (pt_cmpR op_gt (pv 2) (pe_callB call_len_seq (by rfl) T.len PySem.boot_len (pa_cons (pv 1) pa_nil)) (nomark _)) (pss_one (ps_rz r_NowhereToGo rfl hr (by decide) tk0)) pss_nil)
      (pss_cons (ps_set (i := 3) sc.nd rfl (Or.inl rfl) (pe_ix ix_list (pv 1) (pe_op op_sub (pv 2) pe_int) (fun _ _ => rfl)))
      (pss_one (ps_ret (pe_op op_cat (pe_lst (pa_cons (pv 3) pa_nil)) (pe_m m_Session_move (pv 0) T.clE hr (by decide) pass0 (pa_cons (pv 3) pa_nil)))))))), ?_⟩
  obtain ⟨a, la, ρ, s, n, l, rfl, sa, hn, hl, hf, k⟩ := h
  unfold Se.inOrder at k
  have hr1 := sa
  obtain ⟨own, hS, w⟩ := sa
  obtain ⟨r, dx, ta, d, L, gv, e, hA, hg⟩ := hS
  refine ⟨_, rfl, rfl, _, rfl, ?_⟩
  have d0 : decide (vn n = V.int 0) = decide (n = 0) := dec_vn (b := 0)
  rw [d0]
  by_cases c0 : n = 0
  · rw [if_pos c0] at k
    exact if_true_of (decide_eq_true c0) k
  rw [if_neg c0] at k
  refine if_false_of (decide_eq_false c0) ?_
  refine ⟨_, rfl, _, rfl, la, _, rfl, .inl (SqL.of hl), _, _, rfl, rfl, _, rfl, ?_⟩
  by_cases c1 : l.length < n
  · rw [if_pos c1] at k
    refine if_true_of (decide_eq_true (by rw [nl_len]; omega)) k
  rw [if_neg c1] at k
  refine if_false_of (decide_eq_false (by rw [nl_len]; omega)) ?_
  have at1 : l[n - 1]? = some (l.getD (n - 1) 0) := by
    rw [List.getD_eq_getElem?_getD, List.getElem?_eq_getElem (by omega)]
    rfl
  have hfm := hf _ (List.mem_of_getElem? at1)
  refine ⟨_, rfl, _, rfl, _, _, rfl, rfl, la, _, _, _, rfl, rfl, SqL.of hl, (by rw [show ((n : Int) - 1) = ((n - 1 : Nat) : Int) by omega]; exact atI_nat (nl_at at1)), ?_⟩
  refine ⟨_, rfl, (by show 1 ≤ sizeLine; decide), fun q1 h1 => ?_⟩
  have s1 : Same H (upd H q1 (.lst [vn (l.getD (n - 1) 0)])) := same_new h1
  refine ⟨_, rfl, a, dx, _, rfl, s1 _ _ e, se_no (by decide +kernel), _, rfl, ⟨a, ρ, s, l.getD (n - 1) 0, _, rfl, ⟨own.same s1, hr1.at_.same s1, w⟩, hn, find_get hfm, fun H2 ρ2 p o2 hS2 f2 e2 r2 => ?_⟩⟩
  have eq2 := (f2.keep (upd_same (H := H) (a := q1)) (own.free h1)).1
  refine ⟨q1, p, _, _, rfl, rfl, eq2, e2, ?_, fun pp hpp => ?_⟩
  · rw [nl_len]
    show 1 + 3 ≤ sizeLine
    decide
  · exact disp (resl o2 hS2 ((Fr.of_same s1).trans f2) k) rfl hpp
end UB
namespace UB
open PySem PySem.Spec PyProof.Rows L2
open Ue03 (Change)
open Mir
/-! ### Session.start -/
abbrev s_Session_start : Stmt := inClass (top 25) 6
theorem sc_Session_start : FnScope ["self", "text"] ["self", "text"] (defScope s_Session_start) := ⟨rfl, rfl, rfl, by decide +kernel, rfl, by decide +kernel, by decide +kernel⟩
theorem ok_Session_start {P : Program} {w : World} {K : PySem.W.Frag} {mg : Str → Option Value} {base : Heap} {A : Ad} {f : Addr} {fd : FuncData} (F : Fun K "start" "Session.start" s_Session_start f fd) (T : Txt K mg A)
    (m_are_bytes : DefX P w K mg base CX0 1 "are_bytes" ["numbers"] (sp_are_bytes K A))
    (r_OutOfRange : RaiseC P w K mg base A.CR "OutOfRange" (-1))
    (m_Tree_init : MakX P w K mg base CX0 3 "Tree" A.cs.T ["self", "text"] (sp_Tree_init K A))
    : FnOk P w K mg base (L2.CX P w) 8 f fd ["self", "text"] (sp_Session_start K A) := by
  have sc := sc_Session_start
  refine F.okX sc (fun vs H Q E h => sp_Session_start_len h) (fun cdv AA outer s H vs Q E hr h => ?_)
  have tk0 : Takes (cxOf (L2.CX P w) P w K mg base ["self", "text"] "Session.start" (defScope s_Session_start) f cdv AA outer s H E) (fun cls d _ H => E cls d H) := takes_of rfl rfl rfl rfl
  refine ⟨_, (pss_cons (ps_if (PW.pt (pw_or (pt_cmpR op_gt (pe_callB call_len_seq (by rfl) T.len PySem.boot_len (pa_cons (pv 1) pa_nil)) (C8.pe_gc rfl T.c_LONGEST_TEXT) (nomark _)) (pw_or1 (pt_not (pt_val (pe_f m_are_bytes hr (by decide) pass0 (pa_cons (pv 1) pa_nil))))))) (pss_one (ps_rz r_OutOfRange rfl hr (by decide) tk0)) pss_nil)
      (pss_cons (ps_fld (pv 0) (pe_n m_Tree_init hr (by decide) pass0 (pa_cons (pv 1) pa_nil)) rfl)
      (pss_cons (ps_fld (pv 0) pe_int rfl)
      (pss_cons (ps_fld (pv 0) pe_non rfl)
      (pss_one (ps_ret (pe_lst (pa_cons (pe_callB call_len_seq (by rfl) T.len PySem.boot_len (pa_cons (pv 1) pa_nil)) pa_nil)))))))), ?_⟩
  obtain ⟨a, ra, ρ, s, l, rfl, sa, hl, k⟩ := h
  have sa0 := sa
  obtain ⟨own, hS, w⟩ := sa
  have hS0 := hS
  obtain ⟨r, dx, ta, d, L, gv, e, hA, hg⟩ := hS
  have hA0 := hA
  obtain ⟨dt, hT⟩ := hA.obj
  unfold doStart at k
  refine ⟨_, rfl, ra, _, rfl, .inl (SqL.of hl.2), _, _, rfl, rfl, _, rfl, ?_⟩
  by_cases c1 : 300 < l.length
  · rw [if_pos (.inl c1)] at k
    exact if_true_of (decide_eq_true (by rw [nl_len]; omega)) (if_true_of rfl k)
  refine if_false_of (decide_eq_false (by rw [nl_len]; omega)) ?_
  refine ⟨_, rfl, ra, l, rfl, SqL.of hl.2, _, rfl, ?_⟩
  cases c2 : isB l with
  | false =>
    rw [if_pos (.inr c2)] at k
    exact if_true_of rfl k
  | true =>
    rw [if_neg (by rw [c2]; simp; omega)] at k
    refine if_false_of rfl ?_
    refine ⟨_, rfl, fun x dxx hx hdx hne => ?_⟩
    have s1 : Same H (upd H dxx (.own x)) := same_new hdx
    have hx1 : upd H dxx (.own x) x = none := by
      rw [upd_ne (Ne.symm hne)]
      exact hx
    have s2 := s1.trans (same_new (o := .ins A.cs.T dxx []) hx1)
    refine ⟨x, dxx, ra, ρ, l, rfl, upd_same, own.same s2, own.free hx, hl.same s2, fun H1 ρ1 o1 new but => ⟨rfl, ?_⟩⟩
    obtain ⟨d1, L1, hA1⟩ := new
    obtain ⟨e1, r1⟩ := but a _ (s2 _ _ e) (ne_of_none e hx)
    refine ⟨_, rfl, a, _, dx, _, rfl, e1, T.clE, T.nE_tree, by show 3 < 1000; decide, ?_⟩
    refine ⟨_, rfl, a, _, dx, _, rfl, upd_same, T.clE, T.nE_clock, by show 3 < 1000; decide, ?_⟩
    refine ⟨_, rfl, a, _, dx, _, rfl, upd_same, T.clE, T.nE_group, by show 3 < 1000; decide, ?_⟩
    rw [upd_upd, upd_upd, se_put_tree]
    have ec : putF "clock" (V.int 0) (seF x s.clock gv) = seF x 0 gv := se_put_clock (k := 0)
    rw [ec, se_put_group]
    obtain ⟨o2, hS2, f2⟩ := se_field (A := A) (s := ⟨Tr.fresh l, 0, none⟩) (gv' := .non) (g' := none) (dx := dx) (c := 0) (r1.trans r) o1 hA1 rfl
    have fr : Fr All ρ H ρ1 H1 := fun b o eb _ => but b o (s2 b o eb) (ne_of_none eb hx)
    have hl2 := (fr.trans f2).keep hl.2 hl.1
    refine ⟨_, rfl, ra, _, rfl, .inl (SqL.of hl2.1), (by show 1 ≤ sizeLine; decide), fun p hp => ?_⟩
    exact disp (resl o2 hS2 (fr.trans f2) k) (by rw [len_v]; rfl) hp
end UB
namespace UB
open PySem PySem.Spec PyProof.Rows L2
open Ue03 (Change)
open Mir
/-! ### Session.wait -/
abbrev s_Session_wait : Stmt := inClass (top 25) 7
theorem sc_Session_wait : FnScope ["self", "ticks"] ["self", "ticks"] (defScope s_Session_wait) := ⟨rfl, rfl, rfl, by decide +kernel, rfl, by decide +kernel, by decide +kernel⟩
theorem ok_Session_wait {P : Program} {w : World} {K : PySem.W.Frag} {mg : Str → Option Value} {base : Heap} {A : Ad} {f : Addr} {fd : FuncData} (F : Fun K "wait" "Session.wait" s_Session_wait f fd) (T : Txt K mg A)
    (r_OutOfRange : RaiseC P w K mg base A.CR "OutOfRange" (-1))
    : FnOk P w K mg base (L2.CX P w) 8 f fd ["self", "ticks"] (sp_Session_wait K A) := by
  have sc := sc_Session_wait
  refine F.okX sc (fun vs H Q E h => sp_Session_wait_len h) (fun cdv AA outer s H vs Q E hr h => ?_)
  have tk0 : Takes (cxOf (L2.CX P w) P w K mg base ["self", "ticks"] "Session.wait" (defScope s_Session_wait) f cdv AA outer s H E) (fun cls d _ H => E cls d H) := takes_of rfl rfl rfl rfl
  refine ⟨_, (pss_cons (ps_if (pt_cmpR op_gt (pe_op op_add (pe_fld (pv 0) rfl) (pv 1)) (C8.pe_gc rfl T.c_LATEST_CLOCK) (nomark _)) (pss_one (ps_rz r_OutOfRange rfl hr (by decide) tk0)) pss_nil)
      (pss_cons (ps_fld (pv 0) (pe_op op_add (pe_fld (pv 0) rfl) (pv 1)) rfl)
      (pss_one (ps_ret (pe_lst (pa_cons (pe_fld (pv 0) rfl) pa_nil)))))), ?_⟩
  obtain ⟨a, ρ, s, n, rfl, sa, k⟩ := h
  have sa0 := sa
  obtain ⟨own, hS, w⟩ := sa
  have hS0 := hS
  obtain ⟨r, dx, ta, d, L, gv, e, hA, hg⟩ := hS
  have hA0 := hA
  obtain ⟨dt, hT⟩ := hA.obj
  unfold doWait at k
  refine ⟨_, rfl, a, _, dx, _, _, rfl, e, T.clE, T.nE_clock, se_clock, _, rfl, _, _, rfl, rfl, _, _, rfl, rfl, _, rfl, ?_⟩
  by_cases c1 : 1000000 < s.clock + n
  · rw [if_pos c1] at k
    exact if_true_of (decide_eq_true (by omega)) k
  rw [if_neg c1] at k
  refine if_false_of (decide_eq_false (by omega)) ?_
  refine ⟨_, rfl, a, _, dx, _, _, rfl, e, T.clE, T.nE_clock, se_clock, _, rfl, _, _, rfl, rfl, _, rfl, a, _, dx, _, rfl, e, T.clE, T.nE_clock, by show 3 < 1000; decide, ?_⟩
  have ec : putF "clock" (V.int ((s.clock : Int) + (n : Int))) (seF ta s.clock gv) = seF ta (s.clock + n) gv := se_put_clock (k := s.clock + n)
  rw [ec]
  obtain ⟨o2, hS2, f2⟩ := se_field (A := A) (s := s) (gv' := gv) (g' := s.group) (dx := dx) (c := s.clock + n) r own hA hg
  refine ⟨_, rfl, a, _, dx, _, _, rfl, upd_same, T.clE, T.nE_clock, se_clock, (by show 1 ≤ sizeLine; decide), fun p hp => ?_⟩
  exact disp (resl o2 hS2 f2 k) rfl hp
end UB
namespace UB
open PySem PySem.Spec PyProof.Rows L2
open Ue03 (Change)
open Mir
/-! ### Session.change -/
abbrev s_Session_change : Stmt := inClass (top 25) 8
theorem sc_Session_change : FnScope ["self", "position", "removed", "inserted", "old", "made", "text"] ["self", "position", "removed", "inserted"] (defScope s_Session_change) := ⟨rfl, rfl, rfl, by decide +kernel, rfl, by decide +kernel, by decide +kernel⟩
theorem ok_Session_change {P : Program} {w : World} {K : PySem.W.Frag} {mg : Str → Option Value} {base : Heap} {A : Ad} {f : Addr} {fd : FuncData} (F : Fun K "change" "Session.change" s_Session_change f fd) (T : Txt K mg A)
    (m_Session_current_text : MetX P w K mg base CX0 2 A.cs.E "current_text" ["self"] (sp_Session_current_text K A))
    (m_are_bytes : DefX P w K mg base CX0 1 "are_bytes" ["numbers"] (sp_are_bytes K A))
    (r_OutOfRange : RaiseC P w K mg base A.CR "OutOfRange" (-1))
    (r_TextTooLong : RaiseC P w K mg base A.CR "TextTooLong" (-6))
    (m_text_after : DefX P w K mg base CX0 1 "text_after" ["text", "change"] (sp_text_after K A))
    (m_Group_take : MetX P w K mg base CX0 1 A.cs.G "take" ["self", "change", "text"] (sp_Group_take K A))
    (m_Tree_add_state : MetX P w K mg base CX0 3 A.cs.T "add_state" ["self", "time", "changes", "text"] (sp_Tree_add_state K A))
    : FnOk P w K mg base (L2.CX P w) 8 f fd ["self", "position", "removed", "inserted"] (sp_Session_change K A) := by
  have sc := sc_Session_change
  refine F.okX sc (fun vs H Q E h => sp_Session_change_len h) (fun cdv AA outer s H vs Q E hr h => ?_)
  have tk0 : Takes (cxOf (L2.CX P w) P w K mg base ["self", "position", "removed", "inserted", "old", "made", "text"] "Session.change" (defScope s_Session_change) f cdv AA outer s H E) (fun cls d _ H => E cls d H) := takes_of rfl rfl rfl rfl
  refine ⟨_, (pss_cons (ps_set (i := 4) sc.nd rfl (Or.inl rfl) (pe_m0 m_Session_current_text (pv 0) T.clE hr (by decide) pass0))
      (pss_cons (ps_if (PW.pt (pw_or (pt_cmpR op_gt (pe_op op_add (pv 1) (pv 2)) (pe_callB call_len_seq (by rfl) T.len PySem.boot_len (pa_cons (pv 4) pa_nil)) (nomark _)) (pw_or1 (pt_not (pt_val (pe_f m_are_bytes hr (by decide) pass0 (pa_cons (pv 3) pa_nil))))))) (pss_one (ps_rz r_OutOfRange rfl hr (by decide) tk0)) pss_nil)
      (pss_cons (ps_if (pt_cmpR op_gt (pe_op op_add (pe_op op_sub (pe_callB call_len_seq (by rfl) T.len PySem.boot_len (pa_cons (pv 4) pa_nil)) (pv 2)) (pe_callB call_len_seq (by rfl) T.len PySem.boot_len (pa_cons (pv 3) pa_nil))) (C8.pe_gc rfl T.c_LONGEST_TEXT) (nomark _)) (pss_one (ps_rz r_TextTooLong rfl hr (by decide) tk0)) pss_nil)
      (pss_cons (ps_set (i := 5) sc.nd rfl (Or.inl rfl) (pe_tup (pa_cons (pv 1) (pa_cons (pv 2) (pa_cons (pv 3) pa_nil)))))
      (pss_cons (ps_set (i := 6) sc.nd rfl (Or.inl rfl) (pe_f m_text_after hr (by decide) pass0 (pa_cons (pv 4) (pa_cons (pv 5) pa_nil))))
      (pss_cons (ps_if (pt_cmpR op_notN (pe_fld (pv 0) rfl) pe_non (nomark _)) (pss_cons (ps_expr (pe_m m_Group_take (pe_fld (pv 0) rfl) T.clG hr (by decide) pass0 (pa_cons (pv 5) (pa_cons (pv 6) pa_nil))))
        (pss_one (ps_ret (pe_lst (pa_cons (pe_fld (pe_fld (pv 0) rfl) rfl) (pa_cons (pe_callB call_len_seq (by rfl) T.len PySem.boot_len (pa_cons (pv 6) pa_nil)) pa_nil)))))) pss_nil)
      (pss_one (ps_ret (pe_lst (pa_cons (pe_m m_Tree_add_state (pe_fld (pv 0) rfl) T.clT hr (by decide) pass0 (pa_cons (pe_fld (pv 0) rfl) (pa_cons (pe_lst (pa_cons (pv 5) pa_nil)) (pa_cons (pv 6) pa_nil)))) (pa_cons (pe_callB call_len_seq (by rfl) T.len PySem.boot_len (pa_cons (pv 6) pa_nil)) pa_nil))))))))))), ?_⟩
  obtain ⟨a, ra, ρ, s, pp, oo, l, rfl, sa, hl, hl350, k⟩ := h
  have sa0 := sa
  obtain ⟨own, hS, w⟩ := sa
  have hS0 := hS
  obtain ⟨r, dx, ta, d, L, gv, e, hA, hg⟩ := hS
  have hA0 := hA
  obtain ⟨dt, hT⟩ := hA.obj
  unfold doChange at k
  have hsh := w.text_short
  refine ⟨_, rfl, a, dx, _, rfl, e, se_no (by decide +kernel), ⟨a, ρ, s, rfl, hS0, w.tree.here, fun tb lb => ?_⟩⟩
  refine ⟨_, rfl, _, rfl, _, _, rfl, rfl, _, rfl, tb, _, rfl, .inl (SqL.of lb.2), _, _, rfl, rfl, _, rfl, ?_⟩
  by_cases c1 : s.text.length < pp + oo
  · rw [if_pos (.inl c1)] at k
    exact if_true_of (decide_eq_true (by rw [nl_len]; omega)) (if_true_of rfl k)
  refine if_false_of (decide_eq_false (by rw [nl_len]; omega)) ?_
  refine ⟨_, rfl, ra, l, rfl, SqL.of hl.2, _, rfl, ?_⟩
  cases c2 : isB l with
  | false =>
    rw [if_pos (.inr c2)] at k
    exact if_true_of rfl k
  | true =>
    rw [if_neg (by rw [c2]; simp; omega)] at k
    refine if_false_of rfl ?_
    refine ⟨_, rfl, tb, _, rfl, .inl (SqL.of lb.2), _, rfl, _, _, rfl, rfl, _, rfl, ra, _, rfl, .inl (SqL.of hl.2), _, _, rfl, rfl, _, _, rfl, rfl, _, rfl, ?_⟩
    by_cases c3 : 300 < s.text.length - oo + l.length
    · rw [if_pos c3] at k
      exact if_true_of (decide_eq_true (by rw [nl_len, nl_len]; omega)) k
    rw [if_neg c3] at k
    refine if_false_of (decide_eq_false (by rw [nl_len, nl_len]; omega)) ?_
    refine ⟨_, rfl, _, rfl, _, rfl, (by show 3 ≤ sizeLine; decide), fun ca hca => ?_⟩
    have s1 : Same H (upd H ca (.tup [vn pp, vn oo, .ref ra])) := same_new hca
    refine ⟨_, rfl, _, rfl, tb, ca, ra, s.text, pp, oo, l, rfl, s1 _ _ lb.2, upd_same, s1 _ _ hl.2, by omega, fun tn H2 hn s2 e2 => ?_⟩
    have s12 := s1.trans s2
    have rca := own.free hca
    have rtn := own.free (s1.free hn)
    have hc : ChgA ρ H2 ca ⟨pp, oo, l⟩ := ⟨ra, rca, s2 _ _ upd_same, hl.same s12⟩
    have ltn : Lst ρ H2 tn (Ue03.changed s.text ⟨pp, oo, l⟩) := ⟨rtn, e2⟩
    have eE := s12 _ _ e
    have own2 := own.same s12
    have hA2 := hA.same s12
    have hg2 := hg.same s12
    have hT2 := s12 _ _ hT
    dsimp only at k
    cases q : s.group with
    | none =>
      rw [q] at hg2 k
      have hg' : gv = .non := hg2
      subst hg'
      refine ⟨_, rfl, a, _, dx, _, _, rfl, eE, T.clE, T.nE_group, se_group, rfl, _, rfl, if_false_of rfl ?_⟩
      refine ⟨_, rfl, a, _, dx, _, _, rfl, eE, T.clE, T.nE_tree, se_tree, ta, dt, _, rfl, hT2, tr_no (by decide +kernel), _, rfl, a, _, dx, _, _, rfl, eE, T.clE, T.nE_clock, se_clock, _, rfl, (by show 1 ≤ sizeLine; decide), fun la hla => ⟨_, rfl, ?_⟩⟩
      have s3 : Same H2 (upd H2 la (.lst [.ref ca])) := same_new hla
      refine ⟨ta, d, la, tn, ρ, s.tree, L, s.clock, [ca], [⟨pp, oo, l⟩], _, rfl, ⟨own2.same s3, hA2.same s3, w.tree⟩, own2.free hla, upd_same, ⟨?_, trivial⟩, ltn.same s3, fun H4 ρ4 new => ?_⟩
      · exact hc.fr (Fr.of_same (R := fun _ => False) s3)
      obtain ⟨o4, ⟨d4, L4, hA4⟩, f4⟩ := new
      have hS4 := se_with (s := s) f4 r (s3 _ _ eE) (by rw [q]; rfl) hA4
      have f14 : Fr All ρ H ρ4 H4 := ((Fr.of_same s12).trans (Fr.of_same s3)).trans f4.all
      have e4 := (f4.keep (s3 _ _ e2) rtn).1
      refine ⟨_, rfl, tn, _, rfl, .inl (SqL.of e4), (by show 2 ≤ sizeLine; decide), fun p hp => ?_⟩
      exact disp (resl o4 hS4 f14 k) (by rw [len_v]; rfl) hp
    | some g =>
      rw [q] at hg2 k
      obtain ⟨ga, rfl, hG⟩ := hg2
      have hG0 := hG
      obtain ⟨rg, dg, cg, tg, as, eg, _⟩ := hG
      refine ⟨_, rfl, a, _, dx, _, _, rfl, eE, T.clE, T.nE_group, se_group, rfl, _, rfl, if_true_of rfl ?_⟩
      have wg := w.grp g q
      refine ⟨_, rfl, a, _, dx, _, _, rfl, eE, T.clE, T.nE_group, se_group, ga, dg, _, rfl, eg, gr_no (by decide +kernel), _, rfl, _, rfl, ⟨ga, ca, tn, ρ, g, ⟨pp, oo, l⟩, _, rfl, hG0, hc, ltn, own2, by omega, fun H4 hG4 o4 f4 => ?_⟩⟩
      have e4 := f4 a _ eE (by rw [r]; intro z hz; cases hz; exact fun y => y)
      have hA4 := hA2.fr f4 (fun r h z => by cases r <;> first | exact h | exact z)
      have hS4 : SeA A.cs ρ H4 { s with group := some (g.1 ++ [⟨pp, oo, l⟩], Ue03.changed s.text ⟨pp, oo, l⟩) } a := ⟨r, dx, ta, d, L, _, e4.1, hA4, ga, rfl, hG4⟩
      have f14 : Fr All ρ H ρ H4 := (Fr.of_same s12).trans f4.all
      obtain ⟨dt4, hT4⟩ := hA4.obj
      have et4 := (f4.keep e2 rtn).1
      refine ⟨_, rfl, a, _, dx, _, _, rfl, e4.1, T.clE, T.nE_tree, se_tree, ta, _, dt4, _, _, rfl, hT4, T.clT, T.nT_next, tr_next, _, rfl, tn, _, rfl, .inl (SqL.of et4), (by show 2 ≤ sizeLine; decide), fun p hp => ?_⟩
      exact disp (resl o4 hS4 f14 k) (by rw [len_v]; rfl) hp
end UB
namespace UB
open PySem PySem.Spec PyProof.Rows L2
open Ue03 (Change)
open Mir
/-! ### Session.open_group -/
abbrev s_Session_open_group : Stmt := inClass (top 25) 9
theorem sc_Session_open_group : FnScope ["self"] ["self"] (defScope s_Session_open_group) := ⟨rfl, rfl, rfl, by decide +kernel, rfl, by decide +kernel, by decide +kernel⟩
theorem ok_Session_open_group {P : Program} {w : World} {K : PySem.W.Frag} {mg : Str → Option Value} {base : Heap} {A : Ad} {f : Addr} {fd : FuncData} (F : Fun K "open_group" "Session.open_group" s_Session_open_group f fd) (T : Txt K mg A)
    (m_Session_refuse_open_group : MetX P w K mg base (L2.CX P w) 4 A.cs.E "refuse_open_group" ["self"] (sp_Session_refuse_open_group K A))
    (m_Group_init : MakX P w K mg base CX0 1 "Group" A.cs.G ["self", "text"] (sp_Group_init K A))
    (m_Session_current_text : MetX P w K mg base CX0 2 A.cs.E "current_text" ["self"] (sp_Session_current_text K A))
    : FnOk P w K mg base (L2.CX P w) 8 f fd ["self"] (sp_Session_open_group K A) := by
  have sc := sc_Session_open_group
  refine F.okX sc (fun vs H Q E h => sp_Session_open_group_len h) (fun cdv AA outer s H vs Q E hr h => ?_)
  have tk0 : Takes (cxOf (L2.CX P w) P w K mg base ["self"] "Session.open_group" (defScope s_Session_open_group) f cdv AA outer s H E) (fun cls d _ H => E cls d H) := takes_of rfl rfl rfl rfl
  refine ⟨_, (pss_cons (ps_expr (pe_m0 m_Session_refuse_open_group (pv 0) T.clE hr (by decide) (passX tk0)))
      (pss_cons (ps_fld (pv 0) (pe_n m_Group_init hr (by decide) pass0 (pa_cons (pe_m0 m_Session_current_text (pv 0) T.clE hr (by decide) pass0) pa_nil)) rfl)
      (pss_one (ps_ret (pe_lst (pa_cons (pe_fld (pe_fld (pv 0) rfl) rfl) pa_nil)))))), ?_⟩
  obtain ⟨a, ρ, s, rfl, sa, k⟩ := h
  have sa0 := sa
  obtain ⟨own, hS, w⟩ := sa
  have hS0 := hS
  obtain ⟨r, dx, ta, d, L, gv, e, hA, hg⟩ := hS
  have hA0 := hA
  obtain ⟨dt, hT⟩ := hA.obj
  unfold doOpen at k
  refine ⟨_, rfl, a, dx, _, rfl, e, se_no (by decide +kernel), ⟨a, ρ, s, rfl, hS0, fun hn => ?_, fun hs => ret_open k hs⟩⟩
  have k := ret_shut k hn
  refine ⟨_, rfl, a, dx, _, rfl, e, se_no (by decide +kernel), ⟨a, ρ, s, rfl, hS0, w.tree.here, fun tb lb => ?_⟩⟩
  refine fun x dxx hx hdx hne => ⟨x, dxx, tb, rfl, upd_same, fun H1 ca hca eo ec up => ⟨rfl, ?_⟩⟩
  have s1 : Same H (upd H dxx (.own x)) := same_new hdx
  have hx1 : upd H dxx (.own x) x = none := by
    rw [upd_ne (Ne.symm hne)]
    exact hx
  have s2 := s1.trans (same_new (o := .ins A.cs.G dxx []) hx1)
  have s3 : Same H H1 := fun b o eb => up b o (s2 b o eb) (ne_of_none eb hx)
  have hca0 := s2.free hca
  have hxc : x ≠ ca := fun z => by rw [z, ec] at eo; cases eo
  have far : ∀ {b : Addr} {o : HO}, H b = some o → give (give ρ x .gr) ca .gc b = ρ b := fun eb => by
    rw [give_ne (ne_of_none eb hca0), give_ne (ne_of_none eb hx)]
  have fN : Fr (fun _ => False) ρ H (give (give ρ x .gr) ca .gc) H1 := fun b o eb _ => ⟨s3 b o eb, far eb⟩
  have o1 : Own (give (give ρ x .gr) ca .gc) H1 := by
    intro b r' eb
    by_cases c1 : b = ca
    · subst c1
      exact ⟨_, ec⟩
    · rw [give_ne c1] at eb
      by_cases c2 : b = x
      · subst c2
        exact ⟨_, eo⟩
      · rw [give_ne c2] at eb
        obtain ⟨o, ho⟩ := own b r' eb
        exact ⟨o, s3 b o ho⟩
  have hG : GrA A.cs (give (give ρ x .gr) ca .gc) H1 ([], s.text) x := ⟨by rw [give_ne hxc, give_same], dxx, ca, tb, [], eo, give_same, ec, trivial, lb.fr fN⟩
  have hA1 := hA.fr fN (fun _ _ z => z)
  refine ⟨_, rfl, a, _, dx, _, rfl, s3 _ _ e, T.clE, T.nE_group, by show 3 < 1000; decide, ?_⟩
  rw [se_put_group]
  obtain ⟨o2, hS2, f2⟩ := se_field (A := A) (s := s) (gv' := .ref x) (g' := some ([], s.text)) (dx := dx) (c := s.clock) ((far e).trans r) o1 hA1 ⟨x, rfl, hG⟩
  have hS2' := hS2
  obtain ⟨_, dx2, ta2, d2, L2', gv2, e2, hA2, _⟩ := hS2
  obtain ⟨dt2, hT2⟩ := hA2.obj
  refine ⟨_, rfl, a, _, dx2, _, _, rfl, e2, T.clE, T.nE_tree, se_tree, ta2, _, dt2, _, _, rfl, hT2, T.clT, T.nT_next, tr_next, (by show 1 ≤ sizeLine; decide), fun p hp => ?_⟩
  exact disp (resl o2 hS2' (fN.all.trans f2) k) rfl hp
end UB
namespace UB
open PySem PySem.Spec PyProof.Rows L2
open Ue03 (Change)
open Mir
/-! ### Session.close_group -/
abbrev s_Session_close_group : Stmt := inClass (top 25) 10
theorem sc_Session_close_group : FnScope ["self", "group"] ["self"] (defScope s_Session_close_group) := ⟨rfl, rfl, rfl, by decide +kernel, rfl, by decide +kernel, by decide +kernel⟩
theorem ok_Session_close_group {P : Program} {w : World} {K : PySem.W.Frag} {mg : Str → Option Value} {base : Heap} {A : Ad} {f : Addr} {fd : FuncData} (F : Fun K "close_group" "Session.close_group" s_Session_close_group f fd) (T : Txt K mg A)
    (r_WrongForGroup : RaiseC P w K mg base A.CR "WrongForGroup" (-9))
    (m_Tree_add_state : MetX P w K mg base CX0 3 A.cs.T "add_state" ["self", "time", "changes", "text"] (sp_Tree_add_state K A))
    : FnOk P w K mg base (L2.CX P w) 8 f fd ["self"] (sp_Session_close_group K A) := by
  have sc := sc_Session_close_group
  refine F.okX sc (fun vs H Q E h => sp_Session_close_group_len h) (fun cdv AA outer s H vs Q E hr h => ?_)
  have tk0 : Takes (cxOf (L2.CX P w) P w K mg base ["self", "group"] "Session.close_group" (defScope s_Session_close_group) f cdv AA outer s H E) (fun cls d _ H => E cls d H) := takes_of rfl rfl rfl rfl
  refine ⟨_, (pss_cons (ps_if (pt_cmpR op_isN (pe_fld (pv 0) rfl) pe_non (nomark _)) (pss_one (ps_rz r_WrongForGroup rfl hr (by decide) tk0)) pss_nil)
      (pss_cons (ps_set (i := 1) sc.nd rfl (Or.inl rfl) (pe_fld (pv 0) rfl))
      (pss_cons (ps_fld (pv 0) pe_non rfl)
      (pss_cons (ps_if (by exact (pt_truth (by exact (pe_fld (pv 1) rfl)) (by intro _; rfl))) (pss_one (ps_expr (pe_m m_Tree_add_state (pe_fld (pv 0) rfl) T.clT hr (by decide) pass0 (pa_cons (pe_fld (pv 0) rfl) (pa_cons (pe_fld (pv 1) rfl) (pa_cons (pe_fld (pv 1) rfl) pa_nil)))))) pss_nil)
      (pss_one (ps_ret (pe_lst (pa_cons (pe_fld (pe_fld (pv 0) rfl) rfl) pa_nil)))))))), ?_⟩
  obtain ⟨a, ρ, s, rfl, sa, k⟩ := h
  have sa0 := sa
  obtain ⟨own, hS, w⟩ := sa
  have hS0 := hS
  obtain ⟨r, dx, ta, d, L, gv, e, hA, hg⟩ := hS
  have hA0 := hA
  obtain ⟨dt, hT⟩ := hA.obj
  unfold doClose at k
  cases q : s.group with
  | none =>
    rw [q] at hg k
    have hg' : gv = .non := hg
    subst hg'
    refine ⟨_, rfl, a, _, dx, _, _, rfl, e, T.clE, T.nE_group, se_group, rfl, _, rfl, if_true_of rfl ?_⟩
    exact k
  | some g =>
    rw [q] at hg k
    obtain ⟨ga, rfl, hG⟩ := hg
    obtain ⟨rg, dg, cg, tg, as, eg, rc, ec, cs, lg⟩ := hG
    refine ⟨_, rfl, a, _, dx, _, _, rfl, e, T.clE, T.nE_group, se_group, rfl, _, rfl, if_false_of rfl ?_⟩
    refine ⟨_, rfl, a, _, dx, _, _, rfl, e, T.clE, T.nE_group, se_group, ?_⟩
    refine ⟨_, rfl, a, _, dx, _, rfl, e, T.clE, T.nE_group, by show 3 < 1000; decide, ?_⟩
    rw [se_put_group]
    obtain ⟨o1, hS1, f1⟩ := se_field (A := A) (s := s) (gv' := .non) (g' := none) (dx := dx) (c := s.clock) r own hA rfl
    have fse : Fr (fun r => r = .se) ρ H ρ (upd H a (.ins A.cs.E dx (seF ta s.clock .non))) := Fr.upd r rfl
    obtain ⟨eg1, _⟩ := fse ga _ eg (by rw [rg]; intro z hz; cases hz; intro y; cases y)
    obtain ⟨ec1, _⟩ := fse cg _ ec (by rw [rc]; intro z hz; cases hz; intro y; cases y)
    have hS1' := hS1
    obtain ⟨r1, dx1, ta1, d1, L1, gv1, e1, hA1, hgv1⟩ := hS1
    obtain ⟨dt1, hT1⟩ := hA1.obj
    refine ⟨_, rfl, ga, _, dg, _, _, rfl, eg1, T.clG, T.nG_changes, gr_changes, _, .inl ⟨_, SqL.of ec1, rfl⟩, ?_⟩
    dsimp only at k
    by_cases c0 : g.1 = []
    · rw [if_pos c0] at k
      have e0 : as = [] := by
        have := cs.len
        rw [c0] at this
        exact List.eq_nil_of_length_eq_zero this
      subst e0
      refine if_false_of rfl ?_
      refine ⟨_, rfl, a, _, dx1, _, _, rfl, e1, T.clE, T.nE_tree, se_tree, ta1, _, dt1, _, _, rfl, hT1, T.clT, T.nT_current, tr_current, (by show 1 ≤ sizeLine; decide), fun p hp => ?_⟩
      exact disp (resl o1 hS1' f1 k) rfl hp
    · rw [if_neg c0] at k
      have e0 : (!(as.map V.ref).isEmpty) = true := by
        cases as with
        | nil => exact absurd (List.eq_nil_of_length_eq_zero cs.len.symm) c0
        | cons b bs => rfl
      refine if_true_of e0 ?_
      -- the group's list is nobody's to change any more
      have f2 : Fr (fun r => r = .gc) ρ (upd H a (.ins A.cs.E dx (seF ta s.clock .non))) (drop ρ cg) (upd H a (.ins A.cs.E dx (seF ta s.clock .non))) := fr_let2 rc rfl
      have hA2 := hA1.fr f2 (fun r h z => by subst z; exact h)
      have cs2 := (cs.fr fse).fr f2
      have lg2 := (lg.fr fse).fr f2
      have e2 := f2 a _ e1 (by rw [r1]; intro z hz; cases hz; intro y; cases y)
      refine ⟨_, rfl, a, _, dx1, _, _, rfl, e1, T.clE, T.nE_tree, se_tree, ta1, dt1, _, rfl, hT1, tr_no (by decide +kernel), _, rfl, a, _, dx1, _, _, rfl, e1, T.clE, T.nE_clock, se_clock, _, rfl, ga, _, dg, _, _, rfl, eg1, T.clG, T.nG_changes, gr_changes, _, rfl, ga, _, dg, _, _, rfl, eg1, T.clG, T.nG_text, gr_text, ?_⟩
      refine ⟨ta1, d1, cg, tg, drop ρ cg, s.tree, L1, s.clock, as, g.1, g.2, rfl, ⟨own_drop o1, hA2, w.tree⟩, drop_same, ec1, cs2, lg2, fun H4 ρ4 new => ?_⟩
      obtain ⟨o4, ⟨d4, L4, hA4⟩, f4⟩ := new
      have hS4 := se_with (s := { s with group := none }) f4 (e2.2.trans r1) e1 (show GvA A.cs _ _ gv1 none from hgv1) hA4
      have hS4' := hS4
      obtain ⟨r5, dx5, ta5, d5, L5, gv5, e5, hA5, _⟩ := hS4
      obtain ⟨dt5, hT5⟩ := hA5.obj
      refine ⟨_, rfl, a, _, dx5, _, _, rfl, e5, T.clE, T.nE_tree, se_tree, ta5, _, dt5, _, _, rfl, hT5, T.clT, T.nT_current, tr_current, (by show 1 ≤ sizeLine; decide), fun p hp => ?_⟩
      exact disp (resl o4 hS4' ((f1.trans f2.all).trans f4.all) k) rfl hp
end UB
namespace UB
open PySem PySem.Spec PyProof.Rows L2
open Ue03 (Change)
open Mir
/-! ### Session.undo -/
abbrev s_Session_undo : Stmt := inClass (top 25) 11
theorem sc_Session_undo : FnScope ["self", "parent"] ["self"] (defScope s_Session_undo) := ⟨rfl, rfl, rfl, by decide +kernel, rfl, by decide +kernel, by decide +kernel⟩
theorem ok_Session_undo {P : Program} {w : World} {K : PySem.W.Frag} {mg : Str → Option Value} {base : Heap} {A : Ad} {f : Addr} {fd : FuncData} (F : Fun K "undo" "Session.undo" s_Session_undo f fd) (T : Txt K mg A)
    (m_Session_refuse_open_group : MetX P w K mg base (L2.CX P w) 4 A.cs.E "refuse_open_group" ["self"] (sp_Session_refuse_open_group K A))
    (m_Tree_current_state : MetX P w K mg base CX0 1 A.cs.T "current_state" ["self"] (sp_Tree_current_state K A))
    (r_NowhereToGo : RaiseC P w K mg base A.CR "NowhereToGo" (-7))
    (m_Session_where : MetX P w K mg base CX0 3 A.cs.E "where" ["self"] (sp_Session_where K A))
    : FnOk P w K mg base (L2.CX P w) 8 f fd ["self"] (sp_Session_undo K A) := by
  have sc := sc_Session_undo
  refine F.okX sc (fun vs H Q E h => sp_Session_undo_len h) (fun cdv AA outer s H vs Q E hr h => ?_)
  have tk0 : Takes (cxOf (L2.CX P w) P w K mg base ["self", "parent"] "Session.undo" (defScope s_Session_undo) f cdv AA outer s H E) (fun cls d _ H => E cls d H) := takes_of rfl rfl rfl rfl
  refine ⟨_, (pss_cons (ps_expr (pe_m0 m_Session_refuse_open_group (pv 0) T.clE hr (by decide) (passX tk0)))
      (pss_cons (ps_set (i := 1) sc.nd rfl (Or.inl rfl) (pe_fld (pe_m0 m_Tree_current_state (pe_fld (pv 0) rfl) T.clT hr (by decide) pass0) rfl))
      (pss_cons (ps_if (pt_cmpR op_isN (pv 1) pe_non (nomark _)) (pss_one (ps_rz r_NowhereToGo rfl hr (by decide) tk0)) pss_nil)
      (pss_cons (ps_fld (pe_fld (pv 0) rfl) (pv 1) rfl)
      (pss_one (ps_ret (pe_m0 m_Session_where (pv 0) T.clE hr (by decide) pass0))))))), ?_⟩
  obtain ⟨a, ρ, s, rfl, sa, k⟩ := h
  have sa0 := sa
  obtain ⟨own, hS, w⟩ := sa
  have hS0 := hS
  obtain ⟨r, dx, ta, d, L, gv, e, hA, hg⟩ := hS
  have hA0 := hA
  obtain ⟨dt, hT⟩ := hA.obj
  unfold doUndo at k
  refine ⟨_, rfl, a, dx, _, rfl, e, se_no (by decide +kernel), ⟨a, ρ, s, rfl, hS0, fun hn => ?_, fun hs => ret_open k hs⟩⟩
  have k := ret_shut k hn
  refine ⟨_, rfl, a, _, dx, _, _, rfl, e, T.clE, T.nE_tree, se_tree, ta, dt, _, rfl, hT, tr_no (by decide +kernel), ⟨ta, d, ρ, s.tree, L, _, rfl, hA, find_get w.tree.here, fun sb mb => ?_⟩⟩
  obtain ⟨_, ds, cb, tb, hb, as, eb, _⟩ := hA.at_ _ mb
  refine ⟨sb, _, ds, _, _, rfl, eb, T.clS, T.nS_parent, st_parent, ?_⟩
  dsimp only at k eb ⊢
  cases q : (s.tree.get s.tree.current).parent with
  | none =>
    rw [q] at k
    refine ⟨_, rfl, rfl, _, rfl, if_true_of rfl ?_⟩
    exact k
  | some p =>
    rw [q] at k
    obtain ⟨hp, _⟩ := w.tree.parSome w.tree.here q
    refine ⟨_, rfl, rfl, _, rfl, if_false_of rfl ?_⟩
    refine ⟨_, rfl, _, rfl, a, _, dx, _, _, rfl, e, T.clE, T.nE_tree, se_tree, ta, _, dt, _, rfl, hT, T.clT, T.nT_current, by show 3 < 1000; decide, ?_⟩
    rw [show putF "current" (vo (some p)) (trF d s.tree.current s.tree.next) = trF d p s.tree.next from tr_put_current]
    obtain ⟨hA2, f2⟩ := tr_field hA (c := p) (k := s.tree.next) (dx := dt)
    have hS2 := se_with f2 r e hg hA2
    have hS2' := hS2
    obtain ⟨r3, dx3, ta3, d3, L3, gv3, e3, _⟩ := hS2
    have ht : ({ s with tree := { s.tree with current := p } } : Se).text = (s.tree.get p).text := by
      unfold Se.text
      rw [hn]
      rfl
    refine ⟨_, rfl, a, dx3, _, rfl, e3, se_no (by decide +kernel), ⟨a, ρ, _, rfl, hS2', hp, ?_⟩⟩
    have nk := resl own.upd hS2' f2.all k
    show NewL _ _ [p, ({ s with tree := { s.tree with current := p } } : Se).text.length]
    rw [ht]
    exact nk
end UB
namespace UB
open PySem PySem.Spec PyProof.Rows L2
open Ue03 (Change)
open Mir
/-! ### Session.redo -/
abbrev s_Session_redo : Stmt := inClass (top 25) 12
theorem sc_Session_redo : FnScope ["self", "state"] ["self"] (defScope s_Session_redo) := ⟨rfl, rfl, rfl, by decide +kernel, rfl, by decide +kernel, by decide +kernel⟩
theorem ok_Session_redo {P : Program} {w : World} {K : PySem.W.Frag} {mg : Str → Option Value} {base : Heap} {A : Ad} {f : Addr} {fd : FuncData} (F : Fun K "redo" "Session.redo" s_Session_redo f fd) (T : Txt K mg A)
    (m_Session_refuse_open_group : MetX P w K mg base (L2.CX P w) 4 A.cs.E "refuse_open_group" ["self"] (sp_Session_refuse_open_group K A))
    (m_Tree_current_state : MetX P w K mg base CX0 1 A.cs.T "current_state" ["self"] (sp_Tree_current_state K A))
    (r_NowhereToGo : RaiseC P w K mg base A.CR "NowhereToGo" (-7))
    (m_State_preferred_child : MetX P w K mg base CX0 1 A.cs.S "preferred_child" ["self"] (sp_State_preferred_child K A))
    (m_Session_where : MetX P w K mg base CX0 3 A.cs.E "where" ["self"] (sp_Session_where K A))
    : FnOk P w K mg base (L2.CX P w) 8 f fd ["self"] (sp_Session_redo K A) := by
  have sc := sc_Session_redo
  refine F.okX sc (fun vs H Q E h => sp_Session_redo_len h) (fun cdv AA outer s H vs Q E hr h => ?_)
  have tk0 : Takes (cxOf (L2.CX P w) P w K mg base ["self", "state"] "Session.redo" (defScope s_Session_redo) f cdv AA outer s H E) (fun cls d _ H => E cls d H) := takes_of rfl rfl rfl rfl
  refine ⟨_, (pss_cons (ps_expr (pe_m0 m_Session_refuse_open_group (pv 0) T.clE hr (by decide) (passX tk0)))
      (pss_cons (ps_set (i := 1) sc.nd rfl (Or.inl rfl) (pe_m0 m_Tree_current_state (pe_fld (pv 0) rfl) T.clT hr (by decide) pass0))
      (pss_cons (ps_if (pt_not (by exact (pt_truth (by exact (pe_fld (pv 1) rfl)) (by intro _; rfl)))) (pss_one (ps_rz r_NowhereToGo rfl hr (by decide) tk0)) pss_nil)
      (pss_cons (ps_fld (pv 1) (pe_m0 m_State_preferred_child (pv 1) T.clS hr (by decide) pass0) rfl)
      (pss_cons (ps_fld (pe_fld (pv 0) rfl) (pe_fld (pv 1) rfl) rfl)
      (pss_one (ps_ret (pe_m0 m_Session_where (pv 0) T.clE hr (by decide) pass0)))))))), ?_⟩
  obtain ⟨a, ρ, s, rfl, sa, k⟩ := h
  have sa0 := sa
  obtain ⟨own, hS, w⟩ := sa
  have hS0 := hS
  obtain ⟨r, dx, ta, d, L, gv, e, hA, hg⟩ := hS
  have hA0 := hA
  obtain ⟨dt, hT⟩ := hA.obj
  unfold doRedo at k
  refine ⟨_, rfl, a, dx, _, rfl, e, se_no (by decide +kernel), ⟨a, ρ, s, rfl, hS0, fun hn => ?_, fun hs => ret_open k hs⟩⟩
  have k := ret_shut k hn
  refine ⟨_, rfl, a, _, dx, _, _, rfl, e, T.clE, T.nE_tree, se_tree, ta, dt, _, rfl, hT, tr_no (by decide +kernel), ⟨ta, d, ρ, s.tree, L, _, rfl, hA, find_get w.tree.here, fun sb mb => ?_⟩⟩
  have hst := hA.at_ _ mb
  obtain ⟨_, ds, cb, tb, hb, as, eb, _, _, _, ekb⟩ := hst
  refine ⟨_, rfl, sb, _, ds, _, _, rfl, eb, T.clS, T.nS_children, st_children, _, .inl ⟨_, SqL.of ekb, rfl⟩, ?_⟩
  dsimp only at k eb ekb
  have ee : (!(!(nl (s.tree.get s.tree.current).children).isEmpty)) = decide ((s.tree.get s.tree.current).children = []) := by
    rw [Bool.not_not]
    cases (s.tree.get s.tree.current).children <;> simp [nl]
  show if (!(!(nl (s.tree.get s.tree.current).children).isEmpty)) = true then _ else _
  rw [ee]
  by_cases c0 : (s.tree.get s.tree.current).children = []
  · rw [if_pos c0] at k
    exact if_true_of (decide_eq_true c0) k
  rw [if_neg c0] at k
  refine if_false_of (decide_eq_false c0) ?_
  have hm := get_mem w.tree.here
  have hnum := get_num w.tree.here
  obtain ⟨y, hy, hyn, _⟩ := (kids_mem w.tree hm).mp (liked_mem c0)
  have hlk : (s.tree.find (s.tree.get s.tree.current).liked).isSome = true := find_isSome.mpr ⟨y, hy, hyn⟩
  refine ⟨_, rfl, sb, ds, _, rfl, eb, st_no (by decide +kernel), ⟨sb, ρ, _, rfl, hA.at_ _ mb, c0, kids_sorted w.tree hm, ?_⟩⟩
  obtain ⟨ds2, cb2, tb2, hb2, eb2, sto⟩ := st_see (b := 0) (hA.at_ _ mb)
  refine ⟨_, rfl, sb, _, ds2, _, rfl, eb2, T.clS, T.nS_visited, by show 7 < 1000; decide, ?_⟩
  rw [st_put_visited]
  obtain ⟨hA2, f2⟩ := tr_obj hA (sorted_nodup w.tree.sorted) mb (f := fun x => { x with visited := some (s.tree.get s.tree.current).liked }) (fun _ => rfl) (sto (s.tree.get s.tree.current).liked)
  obtain ⟨dt2, hT2⟩ := hA2.obj
  have e2 := (f2 a _ e (by rw [r]; intro z hz; cases hz; exact fun y => y)).1
  refine ⟨_, rfl, sb, _, ds2, _, _, rfl, upd_same, T.clS, T.nS_visited, st_visited, _, rfl, a, _, dx, _, _, rfl, e2, T.clE, T.nE_tree, se_tree, ta, _, dt2, _, rfl, hT2, T.clT, T.nT_current, by show 3 < 1000; decide, ?_⟩
  rw [tr_put_current]
  obtain ⟨hA3, f3⟩ := tr_field hA2 (c := (s.tree.get s.tree.current).liked) (k := s.tree.next) (dx := dt2)
  have f23 := f2.trans f3
  have et : ({ s.tree.mod (s.tree.get s.tree.current).number (fun x => { x with visited := some (s.tree.get s.tree.current).liked }) with current := (s.tree.get s.tree.current).liked, next := s.tree.next } : Tr) = { s.tree.see s.tree.current (s.tree.get s.tree.current).liked with current := (s.tree.get s.tree.current).liked } := by
    rw [hnum]
    rfl
  rw [et] at hA3
  have hS2 := se_with f23 r e hg hA3
  have hS2' := hS2
  obtain ⟨r3, dx3, ta3, d3, L3, gv3, e3, _⟩ := hS2
  have ht : ({ s with tree := { s.tree.see s.tree.current (s.tree.get s.tree.current).liked with current := (s.tree.get s.tree.current).liked } } : Se).text = (s.tree.get (s.tree.get s.tree.current).liked).text := by
    unfold Se.text
    rw [hn]
    exact see_get.1
  refine ⟨_, rfl, a, dx3, _, rfl, e3, se_no (by decide +kernel), ⟨a, ρ, _, rfl, hS2', see_get.2.trans hlk, ?_⟩⟩
  have nk := resl own.upd.upd hS2' f23.all k
  show NewL _ _ [(s.tree.get s.tree.current).liked, ({ s with tree := { s.tree.see s.tree.current (s.tree.get s.tree.current).liked with current := (s.tree.get s.tree.current).liked } } : Se).text.length]
  rw [ht]
  exact nk
end UB
namespace UB
open PySem PySem.Spec PyProof.Rows L2
open Ue03 (Change)
open Mir
/-! ### Session.go_to -/
abbrev s_Session_go_to : Stmt := inClass (top 25) 13
theorem sc_Session_go_to : FnScope ["self", "number"] ["self", "number"] (defScope s_Session_go_to) := ⟨rfl, rfl, rfl, by decide +kernel, rfl, by decide +kernel, by decide +kernel⟩
theorem ok_Session_go_to {P : Program} {w : World} {K : PySem.W.Frag} {mg : Str → Option Value} {base : Heap} {A : Ad} {f : Addr} {fd : FuncData} (F : Fun K "go_to" "Session.go_to" s_Session_go_to f fd) (T : Txt K mg A)
    (m_Session_refuse_open_group : MetX P w K mg base (L2.CX P w) 4 A.cs.E "refuse_open_group" ["self"] (sp_Session_refuse_open_group K A))
    (m_Tree_find_state : MetX P w K mg base (L2.CX P w) 4 A.cs.T "find_state" ["self", "number"] (sp_Tree_find_state K A))
    (m_Session_move : MetX P w K mg base CX0 4 A.cs.E "move" ["self", "number"] (sp_Session_move K A))
    : FnOk P w K mg base (L2.CX P w) 8 f fd ["self", "number"] (sp_Session_go_to K A) := by
  have sc := sc_Session_go_to
  refine F.okX sc (fun vs H Q E h => sp_Session_go_to_len h) (fun cdv AA outer s H vs Q E hr h => ?_)
  have tk0 : Takes (cxOf (L2.CX P w) P w K mg base ["self", "number"] "Session.go_to" (defScope s_Session_go_to) f cdv AA outer s H E) (fun cls d _ H => E cls d H) := takes_of rfl rfl rfl rfl
  refine ⟨_, (pss_cons (ps_expr (pe_m0 m_Session_refuse_open_group (pv 0) T.clE hr (by decide) (passX tk0)))
      (pss_cons (ps_expr (pe_m m_Tree_find_state (pe_fld (pv 0) rfl) T.clT hr (by decide) (passX tk0) (pa_cons (pv 1) pa_nil)))
      (pss_one (ps_ret (pe_m m_Session_move (pv 0) T.clE hr (by decide) pass0 (pa_cons (pv 1) pa_nil)))))), ?_⟩
  obtain ⟨a, ρ, s, n, rfl, sa, k⟩ := h
  have sa0 := sa
  obtain ⟨own, hS, w⟩ := sa
  have hS0 := hS
  obtain ⟨r, dx, ta, d, L, gv, e, hA, hg⟩ := hS
  have hA0 := hA
  obtain ⟨dt, hT⟩ := hA.obj
  unfold doGo at k
  refine ⟨_, rfl, a, dx, _, rfl, e, se_no (by decide +kernel), ⟨a, ρ, s, rfl, hS0, fun hn => ?_, fun hs => ret_open k hs⟩⟩
  have k := ret_shut k hn
  refine ⟨_, rfl, a, _, dx, _, _, rfl, e, T.clE, T.nE_tree, se_tree, ta, dt, _, rfl, hT, tr_no (by decide +kernel), _, rfl, ⟨ta, d, ρ, s.tree, L, n, rfl, hA, fun x sb q m => ?_, fun q => ?_⟩⟩
  · rw [if_neg (by rw [q]; simp)] at k
    exact ⟨_, rfl, a, dx, _, rfl, e, se_no (by decide +kernel), _, rfl, ⟨a, ρ, s, n, x, rfl, sa0, hn, q, k⟩⟩
  · rw [if_pos (by rw [q]; rfl)] at k
    exact k
end UB
namespace UB
open PySem PySem.Spec PyProof.Rows L2
open Ue03 (Change)
open Mir
/-! ### Session.earlier -/
abbrev s_Session_earlier : Stmt := inClass (top 25) 14
theorem sc_Session_earlier : FnScope ["self", "n", "current", "before", "number"] ["self", "n"] (defScope s_Session_earlier) := ⟨rfl, rfl, rfl, by decide +kernel, rfl, by decide +kernel, by decide +kernel⟩
theorem ok_Session_earlier {P : Program} {w : World} {K : PySem.W.Frag} {mg : Str → Option Value} {base : Heap} {A : Ad} {f : Addr} {fd : FuncData} (F : Fun K "earlier" "Session.earlier" s_Session_earlier f fd) (T : Txt K mg A)
    (m_Session_refuse_open_group : MetX P w K mg base (L2.CX P w) 4 A.cs.E "refuse_open_group" ["self"] (sp_Session_refuse_open_group K A))
    (m_Session_move_in_order : MetX P w K mg base (L2.CX P w) 5 A.cs.E "move_in_order" ["self", "numbers", "n"] (sp_Session_move_in_order K A))
    : FnOk P w K mg base (L2.CX P w) 8 f fd ["self", "n"] (sp_Session_earlier K A) := by
  have sc := sc_Session_earlier
  refine F.okX sc (fun vs H Q E h => sp_Session_earlier_len h) (fun cdv AA outer s H vs Q E hr h => ?_)
  have tk0 : Takes (cxOf (L2.CX P w) P w K mg base ["self", "n", "current", "before", "number"] "Session.earlier" (defScope s_Session_earlier) f cdv AA outer s H E) (fun cls d _ H => E cls d H) := takes_of rfl rfl rfl rfl
  refine ⟨_, (pss_cons (ps_expr (pe_m0 m_Session_refuse_open_group (pv 0) T.clE hr (by decide) (passX tk0)))
      (pss_cons (ps_set (i := 2) sc.nd rfl (Or.inr rfl) (pe_fld (pe_fld (pv 0) rfl) rfl))
      (pss_cons (ps_lock (ps_setLc (i := 3) (own := [("number", 4)]) (g := gName 4) rfl sc.nd rfl rfl (sw_true rfl rfl rfl (by decide +kernel)) (pi_keys (pe_fld (pe_fld (pv 0) rfl) rfl)) (blkOk_by (own := [("number", 4)]) (N := ["self", "n", "current", "before", "number"]) (sc := defScope s_Session_earlier) (by decide +kernel)) (fun _ _ _ _ _ => by exact (pg_name (i := 4) sc.nd rfl (Or.inl rfl))) (fun _ _ _ _ _ => by exact (pts_one (pt_cmpR op_lt (pv 4) (pv 2) (nomark _)))) (fun _ _ _ _ _ => by exact (pv 4))))
      (pss_one (ps_ret (pe_m m_Session_move_in_order (pv 0) T.clE hr (by decide) (passX tk0) (pa_cons (pe_callBK (cr_sortedRev (b := true)) (by rfl) T.sorted (by decide +kernel) (pa_cons (pv 3) pa_nil) (pk_cons pe_bl pk_nil)) (pa_cons (pv 1) pa_nil)))))))), ?_⟩
  obtain ⟨a, ρ, s, n, rfl, sa, k⟩ := h
  have sa0 := sa
  obtain ⟨own, hS, w⟩ := sa
  have hS0 := hS
  obtain ⟨r, dx, ta, d, L, gv, e, hA, hg⟩ := hS
  have hA0 := hA
  obtain ⟨dt, hT⟩ := hA.obj
  unfold doEarlier at k
  refine ⟨_, rfl, a, dx, _, rfl, e, se_no (by decide +kernel), ⟨a, ρ, s, rfl, hS0, fun hn => ?_, fun hs => ret_open k hs⟩⟩
  have k := ret_shut k hn
  refine ⟨_, rfl, a, _, dx, _, _, rfl, e, T.clE, T.nE_tree, se_tree, ta, _, dt, _, _, rfl, hT, T.clT, T.nT_current, tr_current, ?_⟩
  have had : a ≠ d := fun z => by
    have := hA.dict
    rw [← z, e] at this
    cases this
  have htd : ta ≠ d := fun z => by
    have := hA.dict
    rw [← z, hT] at this
    cases this
  have hlen : L.length ≤ 100 := by
    have := w.tree.count
    rw [← hA.nodes, List.length_map] at this
    exact this
  refine ⟨d, _, hA.dict, trivial, fun od => ?_⟩
  have st0 : ∀ b o, H b = some o → b ≠ d → upd H d (.frz od (.dK (L.map kvOf))) b = some o := fun b o e hb => by
    rw [upd_ne hb]
    exact e
  refine ⟨_, rfl, a, _, dx, _, _, rfl, st0 _ _ e had, T.clE, T.nE_tree, se_tree, ta, _, dt, _, _, rfl, st0 _ _ hT htd, T.clT, T.nT_states, tr_states, d, od, rfl, .inl ⟨_, upd_same, fun D hD => ?_⟩⟩
  have hDd : D ≠ d := fun z => by
    rw [z, upd_same] at hD
    cases hD
  have hD0 : H D = none := by
    rw [upd_ne hDd] at hD
    exact hD
  refine lc_it walk_keys (fun i Hc => (∀ b o, H b = some o → b ≠ d → Hc b = some o) ∧ Hc d = some (.frz od (.dK (L.map kvOf))) ∧ Hc D = some (.lst (nl (((L.take i).map fun p => p.2.number).filter fun m => decide (m < s.tree.current))))) ?_ (fun i Hc _ h => h.2.1) ?_ ?_
  · refine ⟨fun b o e hb => ?_, ?_, ?_⟩
    · rw [upd_ne (ne_of_none e hD0)]
      exact st0 b o e hb
    · rw [upd_ne (Ne.symm hDd)]
      exact upd_same
    · exact upd_same
  · rintro i v Hc H' hi ⟨g1, g2, g3⟩ ⟨rfl, key, val, hkv, rfl⟩
    rw [List.length_map] at hi
    obtain ⟨p, hp⟩ : ∃ p, L[i]? = some p := ⟨L[i], List.getElem?_eq_getElem hi⟩
    rw [List.getElem?_map, hp] at hkv
    have ek : (Sum.inl (p.2.number : Int) : Key) = key := congrArg Prod.fst (Option.some.inj hkv)
    subst ek
    have more : L.take (i + 1) = L.take i ++ [p] := by
      rw [List.take_succ, hp]
      rfl
    refine ⟨rfl, _, rfl, _, rfl, _, _, rfl, rfl, _, rfl, ?_⟩
    by_cases c : p.2.number < s.tree.current
    · refine if_true_of (decide_eq_true (by omega)) ⟨_, rfl, _, g3, ?_, ?_, ?_, ?_⟩
      · rw [nl_len]
        have := List.length_filter_le (fun m => decide (m < s.tree.current)) ((L.take i).map fun p => p.2.number)
        have h2 := (List.take_sublist i L).length_le
        rw [List.length_map] at this
        exact size_lt (by omega)
      · intro b o e hb
        rw [upd_ne (ne_of_none e hD0)]
        exact g1 b o e hb
      · rw [upd_ne (Ne.symm hDd)]
        exact g2
      · rw [upd_same, more, List.map_append, List.filter_append, nl_app]
        have : (([p].map fun p : Addr × Nd => p.2.number).filter fun m => decide (m < s.tree.current)) = [p.2.number] := by simp [c]
        rw [this]
        rfl
    · refine if_false_of (decide_eq_false (by omega)) ⟨g1, g2, ?_⟩
      rw [more, List.map_append, List.filter_append, nl_app]
      have : (([p].map fun p : Addr × Nd => p.2.number).filter fun m => decide (m < s.tree.current)) = [] := by simp; omega
      rw [this]
      show _ = some (HO.lst (nl _ ++ []))
      rw [List.append_nil]
      exact g3
  · rintro Hc ⟨g1, g2, g3⟩
    refine ⟨g2, ?_⟩
    have s2 : Same H (upd Hc d (.dK (L.map kvOf))) := fun b o eb => by
      by_cases hb : b = d
      · subst hb
        rw [upd_same]
        rw [hA.dict] at eb
        exact eb
      · rw [upd_ne hb]
        exact g1 b o eb hb
    have enum : (L.map fun p => p.2.number) = s.tree.nodes.map fun x => x.number := by
      rw [← hA.nodes, List.map_map]
      rfl
    have e3 : upd Hc d (.dK (L.map kvOf)) D = some (.lst (nl ((s.tree.nodes.map fun x => x.number).filter fun m => decide (m < s.tree.current)))) := by
      rw [upd_ne hDd, g3, List.length_map, List.take_length, enum]
    have srt : ((s.tree.nodes.map fun x => x.number).filter fun m => decide (m < s.tree.current)).Pairwise (· < ·) := List.Pairwise.sublist List.filter_sublist w.tree.sorted
    refine ⟨_, rfl, a, dx, _, rfl, s2 _ _ e, se_no (by decide +kernel), _, rfl, D, ((s.tree.nodes.map fun x => x.number).filter fun m => decide (m < s.tree.current)).map (fun (n : Nat) => (n : Int)), rfl, rfl, SqL.of (by rw [← nl_ints]; exact e3), fun ns q perm ord hq => ?_⟩
    have s3 := s2.trans (same_new (o := .lst (ns.map V.int)) hq)
    refine ⟨_, rfl, ⟨a, q, ρ, s, n, s.tree.before, rfl, ⟨own.same s3, hS0.same s3, w⟩, hn, ?_, fun m hm => ?_, ?_⟩⟩
    · rw [upd_same, sort_down srt perm ord]
      rfl
    · have hm2 : m ∈ s.tree.nodes.map fun x => x.number := (List.mem_filter.mp (List.mem_reverse.mp hm)).1
      obtain ⟨x, hx, ex⟩ := List.mem_map.mp hm2
      exact find_isSome.mpr ⟨x, hx, ex⟩
    · cases z : s.inOrder s.tree.before n with
      | error c =>
        rw [z] at k
        exact Rz.same k s3
      | ok x =>
        rw [z] at k
        intro H' ρ' p o h1 f e' r'
        exact k H' ρ' p o h1 ((Fr.of_same s3).trans f) e' r'
end UB
namespace UB
open PySem PySem.Spec PyProof.Rows L2
open Ue03 (Change)
open Mir
/-! ### Session.later -/
abbrev s_Session_later : Stmt := inClass (top 25) 15
theorem sc_Session_later : FnScope ["self", "n", "current", "behind", "number"] ["self", "n"] (defScope s_Session_later) := ⟨rfl, rfl, rfl, by decide +kernel, rfl, by decide +kernel, by decide +kernel⟩
theorem ok_Session_later {P : Program} {w : World} {K : PySem.W.Frag} {mg : Str → Option Value} {base : Heap} {A : Ad} {f : Addr} {fd : FuncData} (F : Fun K "later" "Session.later" s_Session_later f fd) (T : Txt K mg A)
    (m_Session_refuse_open_group : MetX P w K mg base (L2.CX P w) 4 A.cs.E "refuse_open_group" ["self"] (sp_Session_refuse_open_group K A))
    (m_Session_move_in_order : MetX P w K mg base (L2.CX P w) 5 A.cs.E "move_in_order" ["self", "numbers", "n"] (sp_Session_move_in_order K A))
    : FnOk P w K mg base (L2.CX P w) 8 f fd ["self", "n"] (sp_Session_later K A) := by
  have sc := sc_Session_later
  refine F.okX sc (fun vs H Q E h => sp_Session_later_len h) (fun cdv AA outer s H vs Q E hr h => ?_)
  have tk0 : Takes (cxOf (L2.CX P w) P w K mg base ["self", "n", "current", "behind", "number"] "Session.later" (defScope s_Session_later) f cdv AA outer s H E) (fun cls d _ H => E cls d H) := takes_of rfl rfl rfl rfl
  refine ⟨_, (pss_cons (ps_expr (pe_m0 m_Session_refuse_open_group (pv 0) T.clE hr (by decide) (passX tk0)))
      (pss_cons (ps_set (i := 2) sc.nd rfl (Or.inr rfl) (pe_fld (pe_fld (pv 0) rfl) rfl))
      (pss_cons (ps_lock (ps_setLc (i := 3) (own := [("number", 4)]) (g := gName 4) rfl sc.nd rfl rfl (sw_true rfl rfl rfl (by decide +kernel)) (pi_keys (pe_fld (pe_fld (pv 0) rfl) rfl)) (blkOk_by (own := [("number", 4)]) (N := ["self", "n", "current", "behind", "number"]) (sc := defScope s_Session_later) (by decide +kernel)) (fun _ _ _ _ _ => by exact (pg_name (i := 4) sc.nd rfl (Or.inl rfl))) (fun _ _ _ _ _ => by exact (pts_one (pt_cmpR op_gt (pv 4) (pv 2) (nomark _)))) (fun _ _ _ _ _ => by exact (pv 4))))
      (pss_one (ps_ret (pe_m m_Session_move_in_order (pv 0) T.clE hr (by decide) (passX tk0) (pa_cons (pe_callB cr_sortedI (by rfl) T.sorted (by decide +kernel) (pa_cons (pv 3) pa_nil)) (pa_cons (pv 1) pa_nil)))))))), ?_⟩
  obtain ⟨a, ρ, s, n, rfl, sa, k⟩ := h
  have sa0 := sa
  obtain ⟨own, hS, w⟩ := sa
  have hS0 := hS
  obtain ⟨r, dx, ta, d, L, gv, e, hA, hg⟩ := hS
  have hA0 := hA
  obtain ⟨dt, hT⟩ := hA.obj
  unfold doLater at k
  refine ⟨_, rfl, a, dx, _, rfl, e, se_no (by decide +kernel), ⟨a, ρ, s, rfl, hS0, fun hn => ?_, fun hs => ret_open k hs⟩⟩
  have k := ret_shut k hn
  refine ⟨_, rfl, a, _, dx, _, _, rfl, e, T.clE, T.nE_tree, se_tree, ta, _, dt, _, _, rfl, hT, T.clT, T.nT_current, tr_current, ?_⟩
  have had : a ≠ d := fun z => by
    have := hA.dict
    rw [← z, e] at this
    cases this
  have htd : ta ≠ d := fun z => by
    have := hA.dict
    rw [← z, hT] at this
    cases this
  have hlen : L.length ≤ 100 := by
    have := w.tree.count
    rw [← hA.nodes, List.length_map] at this
    exact this
  refine ⟨d, _, hA.dict, trivial, fun od => ?_⟩
  have st0 : ∀ b o, H b = some o → b ≠ d → upd H d (.frz od (.dK (L.map kvOf))) b = some o := fun b o e hb => by
    rw [upd_ne hb]
    exact e
  refine ⟨_, rfl, a, _, dx, _, _, rfl, st0 _ _ e had, T.clE, T.nE_tree, se_tree, ta, _, dt, _, _, rfl, st0 _ _ hT htd, T.clT, T.nT_states, tr_states, d, od, rfl, .inl ⟨_, upd_same, fun D hD => ?_⟩⟩
  have hDd : D ≠ d := fun z => by
    rw [z, upd_same] at hD
    cases hD
  have hD0 : H D = none := by
    rw [upd_ne hDd] at hD
    exact hD
  refine lc_it walk_keys (fun i Hc => (∀ b o, H b = some o → b ≠ d → Hc b = some o) ∧ Hc d = some (.frz od (.dK (L.map kvOf))) ∧ Hc D = some (.lst (nl (((L.take i).map fun p => p.2.number).filter fun m => decide (s.tree.current < m))))) ?_ (fun i Hc _ h => h.2.1) ?_ ?_
  · refine ⟨fun b o e hb => ?_, ?_, ?_⟩
    · rw [upd_ne (ne_of_none e hD0)]
      exact st0 b o e hb
    · rw [upd_ne (Ne.symm hDd)]
      exact upd_same
    · exact upd_same
  · rintro i v Hc H' hi ⟨g1, g2, g3⟩ ⟨rfl, key, val, hkv, rfl⟩
    rw [List.length_map] at hi
    obtain ⟨p, hp⟩ : ∃ p, L[i]? = some p := ⟨L[i], List.getElem?_eq_getElem hi⟩
    rw [List.getElem?_map, hp] at hkv
    have ek : (Sum.inl (p.2.number : Int) : Key) = key := congrArg Prod.fst (Option.some.inj hkv)
    subst ek
    have more : L.take (i + 1) = L.take i ++ [p] := by
      rw [List.take_succ, hp]
      rfl
    refine ⟨rfl, _, rfl, _, rfl, _, _, rfl, rfl, _, rfl, ?_⟩
    by_cases c : s.tree.current < p.2.number
    · refine if_true_of (decide_eq_true (by omega)) ⟨_, rfl, _, g3, ?_, ?_, ?_, ?_⟩
      · rw [nl_len]
        have := List.length_filter_le (fun m => decide (s.tree.current < m)) ((L.take i).map fun p => p.2.number)
        have h2 := (List.take_sublist i L).length_le
        rw [List.length_map] at this
        exact size_lt (by omega)
      · intro b o e hb
        rw [upd_ne (ne_of_none e hD0)]
        exact g1 b o e hb
      · rw [upd_ne (Ne.symm hDd)]
        exact g2
      · rw [upd_same, more, List.map_append, List.filter_append, nl_app]
        have : (([p].map fun p : Addr × Nd => p.2.number).filter fun m => decide (s.tree.current < m)) = [p.2.number] := by simp [c]
        rw [this]
        rfl
    · refine if_false_of (decide_eq_false (by omega)) ⟨g1, g2, ?_⟩
      rw [more, List.map_append, List.filter_append, nl_app]
      have : (([p].map fun p : Addr × Nd => p.2.number).filter fun m => decide (s.tree.current < m)) = [] := by simp; omega
      rw [this]
      show _ = some (HO.lst (nl _ ++ []))
      rw [List.append_nil]
      exact g3
  · rintro Hc ⟨g1, g2, g3⟩
    refine ⟨g2, ?_⟩
    have s2 : Same H (upd Hc d (.dK (L.map kvOf))) := fun b o eb => by
      by_cases hb : b = d
      · subst hb
        rw [upd_same]
        rw [hA.dict] at eb
        exact eb
      · rw [upd_ne hb]
        exact g1 b o eb hb
    have enum : (L.map fun p => p.2.number) = s.tree.nodes.map fun x => x.number := by
      rw [← hA.nodes, List.map_map]
      rfl
    have e3 : upd Hc d (.dK (L.map kvOf)) D = some (.lst (nl ((s.tree.nodes.map fun x => x.number).filter fun m => decide (s.tree.current < m)))) := by
      rw [upd_ne hDd, g3, List.length_map, List.take_length, enum]
    have srt : ((s.tree.nodes.map fun x => x.number).filter fun m => decide (s.tree.current < m)).Pairwise (· < ·) := List.Pairwise.sublist List.filter_sublist w.tree.sorted
    refine ⟨_, rfl, a, dx, _, rfl, s2 _ _ e, se_no (by decide +kernel), _, rfl, D, ((s.tree.nodes.map fun x => x.number).filter fun m => decide (s.tree.current < m)).map (fun (n : Nat) => (n : Int)), rfl, SqL.of (by rw [← nl_ints]; exact e3), fun ns q perm ord hq => ?_⟩
    have s3 := s2.trans (same_new (o := .lst (ns.map V.int)) hq)
    refine ⟨_, rfl, ⟨a, q, ρ, s, n, s.tree.behind, rfl, ⟨own.same s3, hS0.same s3, w⟩, hn, ?_, fun m hm => ?_, ?_⟩⟩
    · rw [upd_same, sort_up srt perm ord]
      rfl
    · have hm2 : m ∈ s.tree.nodes.map fun x => x.number := (List.mem_filter.mp hm).1
      obtain ⟨x, hx, ex⟩ := List.mem_map.mp hm2
      exact find_isSome.mpr ⟨x, hx, ex⟩
    · cases z : s.inOrder s.tree.behind n with
      | error c =>
        rw [z] at k
        exact Rz.same k s3
      | ok x =>
        rw [z] at k
        intro H' ρ' p o h1 f e' r'
        exact k H' ρ' p o h1 ((Fr.of_same s3).trans f) e' r'
end UB
namespace UB
open PySem PySem.Spec PyProof.Rows L2
open Ue03 (Change)
open Mir
/-! ### Session.ago -/
abbrev s_Session_ago : Stmt := inClass (top 25) 16
theorem sc_Session_ago : FnScope ["self", "ticks", "there", "number", "state"] ["self", "ticks"] (defScope s_Session_ago) := ⟨rfl, rfl, rfl, by decide +kernel, rfl, by decide +kernel, by decide +kernel⟩
theorem ok_Session_ago {P : Program} {w : World} {K : PySem.W.Frag} {mg : Str → Option Value} {base : Heap} {A : Ad} {f : Addr} {fd : FuncData} (F : Fun K "ago" "Session.ago" s_Session_ago f fd) (T : Txt K mg A)
    (m_Session_refuse_open_group : MetX P w K mg base (L2.CX P w) 4 A.cs.E "refuse_open_group" ["self"] (sp_Session_refuse_open_group K A))
    (m_Session_move_in_order : MetX P w K mg base (L2.CX P w) 5 A.cs.E "move_in_order" ["self", "numbers", "n"] (sp_Session_move_in_order K A))
    : FnOk P w K mg base (L2.CX P w) 8 f fd ["self", "ticks"] (sp_Session_ago K A) := by
  have sc := sc_Session_ago
  refine F.okX sc (fun vs H Q E h => sp_Session_ago_len h) (fun cdv AA outer s H vs Q E hr h => ?_)
  have tk0 : Takes (cxOf (L2.CX P w) P w K mg base ["self", "ticks", "there", "number", "state"] "Session.ago" (defScope s_Session_ago) f cdv AA outer s H E) (fun cls d _ H => E cls d H) := takes_of rfl rfl rfl rfl
  refine ⟨_, (pss_cons (ps_expr (pe_m0 m_Session_refuse_open_group (pv 0) T.clE hr (by decide) (passX tk0)))
      (pss_cons (ps_lock (ps_setLc (i := 2) (own := [("number", 3), ("state", 4)]) (g := gTup K 2 (gCons (gName 3) (gCons (gName 4) gNil))) (tt := tTest (tOp (rI0 fun i j => .bl (decide (i ≤ j))) (tOp (rI0 fun i j => .int (i + j)) (tFld K (tVar 4) "time") (tVar 1)) (tFld K (tVar 0) "clock"))) rfl sc.nd rfl rfl (sw_true rfl rfl rfl (by decide +kernel)) (pi_items (pe_fld (pe_fld (pv 0) rfl) rfl)) (blkOk_by (own := [("number", 3), ("state", 4)]) (N := ["self", "ticks", "there", "number", "state"]) (sc := defScope s_Session_ago) (by decide +kernel)) (fun _ _ _ _ _ => by exact (pg_tup rfl (pgs_cons (pg_name (i := 3) sc.nd rfl (Or.inl rfl)) (pgs_cons (pg_name (i := 4) sc.nd rfl (Or.inl rfl)) pgs_nil)))) (fun _ _ _ _ _ => by exact (pts_one (pt_cmpR op_le (pe_op op_add (pe_fld (pv 4) rfl) (pv 1)) (pe_fld (pv 0) rfl) (nomark _)))) (fun _ _ _ _ _ => by exact (pv 3))))
      (pss_one (ps_ret (pe_m m_Session_move_in_order (pv 0) T.clE hr (by decide) (passX tk0) (pa_cons (pe_callBK (cr_sortedRev (b := true)) (by rfl) T.sorted (by decide +kernel) (pa_cons (pv 2) pa_nil) (pk_cons pe_bl pk_nil)) (pa_cons pe_int pa_nil))))))), ?_⟩
  obtain ⟨a, ρ, s, n, rfl, sa, k⟩ := h
  have sa0 := sa
  obtain ⟨own, hS, w⟩ := sa
  have hS0 := hS
  obtain ⟨r, dx, ta, d, L, gv, e, hA, hg⟩ := hS
  have hA0 := hA
  obtain ⟨dt, hT⟩ := hA.obj
  unfold doAgo at k
  refine ⟨_, rfl, a, dx, _, rfl, e, se_no (by decide +kernel), ⟨a, ρ, s, rfl, hS0, fun hn => ?_, fun hs => ret_open k hs⟩⟩
  have k := ret_shut k hn
  have had : a ≠ d := fun z => by
    have := hA.dict
    rw [← z, e] at this
    cases this
  have htd : ta ≠ d := fun z => by
    have := hA.dict
    rw [← z, hT] at this
    cases this
  have hlen : L.length ≤ 100 := by
    have := w.tree.count
    rw [← hA.nodes, List.length_map] at this
    exact this
  refine ⟨d, _, hA.dict, trivial, fun od => ?_⟩
  have st0 : ∀ b o, H b = some o → b ≠ d → upd H d (.frz od (.dK (L.map kvOf))) b = some o := fun b o e hb => by
    rw [upd_ne hb]
    exact e
  refine ⟨_, rfl, a, _, dx, _, _, rfl, st0 _ _ e had, T.clE, T.nE_tree, se_tree, ta, _, dt, _, _, rfl, st0 _ _ hT htd, T.clT, T.nT_states, tr_states, d, od, _, rfl, upd_same, fun D hD => ?_⟩
  have hDd : D ≠ d := fun z => by
    rw [z, upd_same] at hD
    cases hD
  have hD0 : H D = none := by
    rw [upd_ne hDd] at hD
    exact hD
  refine lc_it walk_items (fun i Hc => (∀ b o, H b = some o → b ≠ d → Hc b = some o) ∧ Hc d = some (.frz od (.dK (L.map kvOf))) ∧ Hc D = some (.lst (nl (((L.take i).filter fun p => decide (p.2.time + n ≤ s.clock)).map fun p => p.2.number)))) ?_ (fun i Hc _ h => h.2.1) ?_ ?_
  · refine ⟨fun b o e hb => ?_, ?_, ?_⟩
    · rw [upd_ne (ne_of_none e hD0)]
      exact st0 b o e hb
    · rw [upd_ne (Ne.symm hDd)]
      exact upd_same
    · exact upd_same
  · rintro i v Hc H' hi ⟨g1, g2, g3⟩ ⟨TT, x, y, rfl, hTT, rfl, ex, ey⟩
    rw [List.length_map] at hi
    obtain ⟨p, hp⟩ : ∃ p, L[i]? = some p := ⟨L[i], List.getElem?_eq_getElem hi⟩
    dsimp only at ex ey
    rw [List.getElem?_map, hp] at ex ey
    have ex2 : vn p.2.number = x := Option.some.inj ex
    have ey2 : V.ref p.1 = y := Option.some.inj ey
    subst ex2 ey2
    have mp : p ∈ L := List.mem_of_getElem? hp
    obtain ⟨_, ds, cb, tb, hb, as, eb, _⟩ := hA.at_ p mp
    have nsd : p.1 ≠ d := fun z => by
      have := hA.dict
      rw [← z, eb] at this
      cases this
    have hTD : D ≠ TT := ne_of_none g3 hTT
    have hTd : d ≠ TT := ne_of_none g2 hTT
    have up : ∀ b o, H b = some o → b ≠ d → upd Hc TT (.tup [vn p.2.number, .ref p.1]) b = some o := fun b o e hb => by
      rw [upd_ne (ne_of_none (g1 b o e hb) hTT)]
      exact g1 b o e hb
    have more : L.take (i + 1) = L.take i ++ [p] := by
      rw [List.take_succ, hp]
      rfl
    refine ⟨TT, _, rfl, SqT.of upd_same, rfl, _, _, rfl, _, _, rfl, rfl, rfl, ?_⟩
    refine ⟨_, rfl, p.1, _, ds, _, _, rfl, up _ _ eb nsd, T.clS, T.nS_time, st_time, _, rfl, _, _, rfl, rfl, _, rfl, a, _, dx, _, _, rfl, up _ _ e had, T.clE, T.nE_clock, se_clock, _, _, rfl, rfl, _, rfl, ?_⟩
    by_cases c : p.2.time + n ≤ s.clock
    · refine if_true_of (decide_eq_true (by omega)) ⟨_, rfl, _, by rw [upd_ne hTD]; exact g3, ?_, ?_, ?_, ?_⟩
      · rw [nl_len, List.length_map]
        have := List.length_filter_le (fun p : Addr × Nd => decide (p.2.time + n ≤ s.clock)) (L.take i)
        have h2 := (List.take_sublist i L).length_le
        exact size_lt (by omega)
      · intro b o e hb
        rw [upd_ne (ne_of_none e hD0)]
        exact up b o e hb
      · rw [upd_ne (Ne.symm hDd), upd_ne hTd]
        exact g2
      · rw [upd_same, more, List.filter_append, List.map_append, nl_app]
        have : ([p].filter fun p : Addr × Nd => decide (p.2.time + n ≤ s.clock)) = [p] := by simp [c]
        rw [this]
        rfl
    · refine if_false_of (decide_eq_false (by omega)) ⟨up, ?_, ?_⟩
      · rw [upd_ne hTd]
        exact g2
      · rw [upd_ne hTD, more, List.filter_append, List.map_append, nl_app]
        have : ([p].filter fun p : Addr × Nd => decide (p.2.time + n ≤ s.clock)) = [] := by simp; omega
        rw [this]
        show _ = some (HO.lst (nl _ ++ []))
        rw [List.append_nil]
        exact g3
  · rintro Hc ⟨g1, g2, g3⟩
    refine ⟨g2, ?_⟩
    have s2 : Same H (upd Hc d (.dK (L.map kvOf))) := fun b o eb => by
      by_cases hb : b = d
      · subst hb
        rw [upd_same]
        rw [hA.dict] at eb
        exact eb
      · rw [upd_ne hb]
        exact g1 b o eb hb
    have enum : ((L.filter fun p => decide (p.2.time + n ≤ s.clock)).map fun p => p.2.number) = (s.tree.nodes.filter fun x => decide (x.time + n ≤ s.clock)).map fun x => x.number := by
      rw [← hA.nodes, List.filter_map, List.map_map]
      rfl
    have e3 : upd Hc d (.dK (L.map kvOf)) D = some (.lst (nl ((s.tree.nodes.filter fun x => decide (x.time + n ≤ s.clock)).map fun x => x.number))) := by
      rw [upd_ne hDd, g3, List.length_map, List.take_length, enum]
    have srt : ((s.tree.nodes.filter fun x => decide (x.time + n ≤ s.clock)).map fun x => x.number).Pairwise (· < ·) := List.Pairwise.sublist (List.Sublist.map _ List.filter_sublist) w.tree.sorted
    refine ⟨_, rfl, a, dx, _, rfl, s2 _ _ e, se_no (by decide +kernel), _, rfl, D, ((s.tree.nodes.filter fun x => decide (x.time + n ≤ s.clock)).map fun x => x.number).map (fun (n : Nat) => (n : Int)), rfl, rfl, SqL.of (by rw [← nl_ints]; exact e3), fun ns q perm ord hq => ?_⟩
    have s3 := s2.trans (same_new (o := .lst (ns.map V.int)) hq)
    refine ⟨a, q, ρ, s, 1, s.there n, rfl, ⟨own.same s3, hS0.same s3, w⟩, hn, ?_, fun m hm => ?_, ?_⟩
    · rw [upd_same, sort_down srt perm ord]
      rfl
    · obtain ⟨x, hx, ex⟩ := List.mem_map.mp (List.mem_reverse.mp hm)
      exact find_isSome.mpr ⟨x, (List.mem_filter.mp hx).1, ex⟩
    · cases z : s.inOrder (s.there n) 1 with
      | error c =>
        rw [z] at k
        exact Rz.same k s3
      | ok x =>
        rw [z] at k
        intro H' ρ' p o h1 f e' r'
        exact k H' ρ' p o h1 ((Fr.of_same s3).trans f) e' r'
end UB
namespace UB
open PySem PySem.Spec PyProof.Rows L2
open Ue03 (Change)
open Mir
/-! ### Session.get_text -/
abbrev s_Session_get_text : Stmt := inClass (top 25) 17
theorem sc_Session_get_text : FnScope ["self"] ["self"] (defScope s_Session_get_text) := ⟨rfl, rfl, rfl, by decide +kernel, rfl, by decide +kernel, by decide +kernel⟩
theorem ok_Session_get_text {P : Program} {w : World} {K : PySem.W.Frag} {mg : Str → Option Value} {base : Heap} {A : Ad} {f : Addr} {fd : FuncData} (F : Fun K "get_text" "Session.get_text" s_Session_get_text f fd) (T : Txt K mg A)
    (m_counted : DefX P w K mg base CX0 1 "counted" ["numbers"] (sp_counted K A))
    (m_Session_current_text : MetX P w K mg base CX0 2 A.cs.E "current_text" ["self"] (sp_Session_current_text K A))
    : FnOk P w K mg base CX0 8 f fd ["self"] (sp_Session_get_text K A) := by
  have sc := sc_Session_get_text
  refine F.ok sc (fun vs H Q E h => sp_Session_get_text_len h) (fun cdv AA outer s H vs Q E hr h => ?_)
  refine ⟨_, (pss_one (ps_ret (pe_f m_counted hr (by decide) pass0 (pa_cons (pe_m0 m_Session_current_text (pv 0) T.clE hr (by decide) pass0) pa_nil)))), ?_⟩
  obtain ⟨a, ρ, s, rfl, sa, k⟩ := h
  have sa0 := sa
  obtain ⟨own, hS, w⟩ := sa
  have hS0 := hS
  obtain ⟨r, dx, ta, d, L, gv, e, hA, hg⟩ := hS
  have hA0 := hA
  obtain ⟨dt, hT⟩ := hA.obj
  have hsh := w.text_short
  refine ⟨_, rfl, a, dx, _, rfl, e, se_no (by decide +kernel), ⟨a, ρ, s, rfl, hS0, w.tree.here, fun tb lb => ?_⟩⟩
  exact ⟨tb, s.text, rfl, lb.2, by omega, resl own hS0 Fr.refl k⟩
end UB
namespace UB
open PySem PySem.Spec PyProof.Rows L2
open Ue03 (Change)
open Mir
/-! ### Session.state_info -/
abbrev s_Session_state_info : Stmt := inClass (top 25) 18
theorem sc_Session_state_info : FnScope ["self", "number", "state", "parent", "depth"] ["self", "number"] (defScope s_Session_state_info) := ⟨rfl, rfl, rfl, by decide +kernel, rfl, by decide +kernel, by decide +kernel⟩
theorem ok_Session_state_info {P : Program} {w : World} {K : PySem.W.Frag} {mg : Str → Option Value} {base : Heap} {A : Ad} {f : Addr} {fd : FuncData} (F : Fun K "state_info" "Session.state_info" s_Session_state_info f fd) (T : Txt K mg A)
    (m_Tree_find_state : MetX P w K mg base (L2.CX P w) 4 A.cs.T "find_state" ["self", "number"] (sp_Tree_find_state K A))
    (m_Tree_way_to : MetX P w K mg base CX0 1 A.cs.T "way_to" ["self", "number"] (sp_Tree_way_to K A))
    (m_counted : DefX P w K mg base CX0 1 "counted" ["numbers"] (sp_counted K A))
    : FnOk P w K mg base (L2.CX P w) 8 f fd ["self", "number"] (sp_Session_state_info K A) := by
  have sc := sc_Session_state_info
  refine F.okX sc (fun vs H Q E h => sp_Session_state_info_len h) (fun cdv AA outer s H vs Q E hr h => ?_)
  have tk0 : Takes (cxOf (L2.CX P w) P w K mg base ["self", "number", "state", "parent", "depth"] "Session.state_info" (defScope s_Session_state_info) f cdv AA outer s H E) (fun cls d _ H => E cls d H) := takes_of rfl rfl rfl rfl
  refine ⟨_, (pss_cons (ps_set (i := 2) sc.nd rfl (Or.inl rfl) (pe_m m_Tree_find_state (pe_fld (pv 0) rfl) T.clT hr (by decide) (passX tk0) (pa_cons (pv 1) pa_nil)))
      (pss_cons (ps_set (i := 3) sc.nd rfl (Or.inl rfl) pe_int)
      (pss_cons (ps_if (pt_cmpR op_notN (pe_fld (pv 2) rfl) pe_non (nomark _)) (pss_one (ps_set (i := 3) sc.nd rfl (Or.inl rfl) (pe_op op_add (pe_fld (pv 2) rfl) pe_int))) pss_nil)
      (pss_cons (ps_set (i := 4) sc.nd rfl (Or.inl rfl) (pe_op op_sub (pe_callB call_len_seq (by rfl) T.len PySem.boot_len (pa_cons (pe_m m_Tree_way_to (pe_fld (pv 0) rfl) T.clT hr (by decide) pass0 (pa_cons (pv 1) pa_nil)) pa_nil)) pe_int))
      (pss_one (ps_ret (pe_op op_cat (pe_lst (pa_cons (pv 3) (pa_cons (pe_fld (pv 2) rfl) (pa_cons (pv 4) (pa_cons (pe_fld (pv 2) rfl) (pa_cons (pe_callB call_len_seq (by rfl) T.len PySem.boot_len (pa_cons (pe_fld (pv 2) rfl) pa_nil)) pa_nil)))))) (pe_f m_counted hr (by decide) pass0 (pa_cons (pe_fld (pv 2) rfl) pa_nil))))))))), ?_⟩
  obtain ⟨a, ρ, s, n, rfl, sa, k⟩ := h
  have sa0 := sa
  obtain ⟨own, hS, w⟩ := sa
  have hS0 := hS
  obtain ⟨r, dx, ta, d, L, gv, e, hA, hg⟩ := hS
  have hA0 := hA
  obtain ⟨dt, hT⟩ := hA.obj
  unfold doInfo at k
  refine ⟨_, rfl, a, _, dx, _, _, rfl, e, T.clE, T.nE_tree, se_tree, ta, dt, _, rfl, hT, tr_no (by decide +kernel), _, rfl, ⟨ta, d, ρ, s.tree, L, n, rfl, hA, fun x sb q mb => ?_, fun q => ?_⟩⟩
  rotate_left
  · rw [q] at k
    exact k
  rw [q] at k
  have hm : (s.tree.find n).isSome = true := by rw [q]; rfl
  obtain ⟨_, ds, cb, tb, hb, as, eb, ⟨rcb, ecb, hcs⟩, lb, rhb, ehb⟩ := hA.at_ _ mb
  have hx := find_mem q
  have wlen := way_len w.tree hm
  have wpos : 1 ≤ (s.tree.way n).length := by
    obtain ⟨rr, er⟩ := way_root w.tree n hm
    rw [er]
    simp
  dsimp only at eb ecb hcs ehb k
  -- from the depth on
  have rest : ∀ (pn : Nat), ResL A.cs ρ H a Q (s, [pn, x.time, (s.tree.way n).length - 1, x.kept, x.changes.length] ++ counted x.children) → (tSeq (tAsg (tOp (rI0 fun i j => .int (i - j)) (tCB (fun xs H Q => ∃ a ys, xs = [.ref a] ∧ (SqL K H a ys ∨ SqT K H a ys) ∧ Q (.int ys.length) H) (tCons (tM A.cs.T "way_to" (sp_Tree_way_to K A) E0 (tFld K (tVar 0) "tree") (tCons (tVar 1) tNil)) tNil)) (tC (.int 1))) (gName 4))
      (tRet (tOp rCat (tLst (tCons (tVar 3) (tCons (tFld K (tVar 2) "time") (tCons (tVar 4) (tCons (tFld K (tVar 2) "kept") (tCons (tCB (fun xs H Q => ∃ a ys, xs = [.ref a] ∧ (SqL K H a ys ∨ SqT K H a ys) ∧ Q (.int ys.length) H) (tCons (tFld K (tVar 2) "changes") tNil)) tNil))))))
        (tF (sp_counted K A) E0 (tCons (tFld K (tVar 2) "children") tNil))))) { nx := fun _ H' => Q .non H', rt := Q } [some (.ref a), some (vn n), some (.ref sb), some (vn pn), none] H := by
    intro pn k
    refine ⟨_, rfl, a, _, dx, _, _, rfl, e, T.clE, T.nE_tree, se_tree, ta, dt, _, rfl, hT, tr_no (by decide +kernel), _, rfl, ⟨ta, d, ρ, s.tree, L, n, x, rfl, ⟨own, hA, w.tree⟩, q, fun p1 H1 f1 s1 e1 => ?_⟩⟩
    refine ⟨p1, _, rfl, .inl (SqL.of e1), _, _, rfl, rfl, ?_⟩
    have ed : V.int (((nl (s.tree.way n)).length : Int) - 1) = vn ((s.tree.way n).length - 1) := by
      rw [nl_len]
      unfold vn
      congr 1
      omega
    show gName 4 (V.int (((nl (s.tree.way n)).length : Int) - 1)) _ H1 _
    rw [ed]
    have eb1 := s1 _ _ eb
    refine ⟨_, rfl, _, rfl, sb, _, ds, _, _, rfl, eb1, T.clS, T.nS_time, st_time, _, rfl, _, rfl, sb, _, ds, _, _, rfl, eb1, T.clS, T.nS_kept, st_kept, _, rfl, sb, _, ds, _, _, rfl, eb1, T.clS, T.nS_changes, st_changes, cb, _, rfl, .inl (SqL.of (s1 _ _ ecb)), (by show 5 ≤ sizeLine; decide), fun q1 h1 => ?_⟩
    have s2 : Same H1 (upd H1 q1 (.lst [vn pn, vn x.time, vn ((s.tree.way n).length - 1), vn x.kept, V.int ((as.map V.ref).length : Int)])) := same_new h1
    have s12 := s1.trans s2
    refine ⟨_, rfl, sb, _, ds, _, _, rfl, s2 _ _ eb1, T.clS, T.nS_children, st_children, ⟨hb, x.children, rfl, s12 _ _ ehb, (by have := kids_len w.tree hx; omega), fun p3 H3 f3 s3 e3 => ?_⟩⟩
    refine ⟨q1, p3, _, _, rfl, rfl, s3 _ _ upd_same, e3, ?_, fun p4 hp4 => ?_⟩
    · rw [nl_len]
      unfold counted
      have := kids_len w.tree hx
      show 5 + (x.children.length + 1) ≤ _
      exact size_le (by omega)
    · have s13 := s12.trans s3
      refine disp (resl (own.same s13) (hS0.same s13) (Fr.of_same s13) k) ?_ hp4
      rw [ref_len, hcs.len, nl_app]
      rfl
  refine ⟨_, rfl, sb, _, ds, _, _, rfl, eb, T.clS, T.nS_parent, st_parent, rfl, _, rfl, ?_⟩
  cases qp : x.parent with
  | none =>
    refine if_false_of rfl ?_
    exact rest 0 (by rw [qp] at k; exact k)
  | some p =>
    refine if_true_of rfl ?_
    rw [qp] at eb
    refine ⟨_, rfl, sb, _, ds, _, _, rfl, eb, T.clS, T.nS_parent, st_parent, _, _, rfl, rfl, ?_⟩
    exact rest (p + 1) (by rw [qp] at k; exact k)
end UB
namespace UB
open PySem PySem.Spec PyProof.Rows L2
open Ue03 (Change)
open Mir
/-! ### Session.leaves -/
abbrev s_Session_leaves : Stmt := inClass (top 25) 19
theorem sc_Session_leaves : FnScope ["self"] ["self"] (defScope s_Session_leaves) := ⟨rfl, rfl, rfl, by decide +kernel, rfl, by decide +kernel, by decide +kernel⟩
theorem ok_Session_leaves {P : Program} {w : World} {K : PySem.W.Frag} {mg : Str → Option Value} {base : Heap} {A : Ad} {f : Addr} {fd : FuncData} (F : Fun K "leaves" "Session.leaves" s_Session_leaves f fd) (T : Txt K mg A)
    (m_counted : DefX P w K mg base CX0 1 "counted" ["numbers"] (sp_counted K A))
    (m_Tree_leaves : MetX P w K mg base CX0 1 A.cs.T "leaves" ["self"] (sp_Tree_leaves K A))
    : FnOk P w K mg base CX0 8 f fd ["self"] (sp_Session_leaves K A) := by
  have sc := sc_Session_leaves
  refine F.ok sc (fun vs H Q E h => sp_Session_leaves_len h) (fun cdv AA outer s H vs Q E hr h => ?_)
  refine ⟨_, (pss_one (ps_ret (pe_f m_counted hr (by decide) pass0 (pa_cons (pe_m0 m_Tree_leaves (pe_fld (pv 0) rfl) T.clT hr (by decide) pass0) pa_nil)))), ?_⟩
  obtain ⟨a, ρ, s, rfl, sa, k⟩ := h
  have sa0 := sa
  obtain ⟨own, hS, w⟩ := sa
  have hS0 := hS
  obtain ⟨r, dx, ta, d, L, gv, e, hA, hg⟩ := hS
  have hA0 := hA
  obtain ⟨dt, hT⟩ := hA.obj
  refine ⟨_, rfl, a, _, dx, _, _, rfl, e, T.clE, T.nE_tree, se_tree, ta, dt, _, rfl, hT, tr_no (by decide +kernel), ⟨ta, d, ρ, s.tree, L, rfl, ⟨own, hA, w.tree⟩, fun p H1 hp s1 e1 => ?_⟩⟩
  refine ⟨p, s.tree.leaves, rfl, e1, ?_, resl (own.same s1) (hS0.same s1) (Fr.of_same s1) k⟩
  unfold Tr.leaves
  rw [List.length_map]
  have := List.length_filter_le (fun x : Nd => x.children.isEmpty) s.tree.nodes
  have := w.tree.count
  omega
end UB
namespace UB
open PySem PySem.Spec PyProof.Rows L2
open Ue03 (Change)
open Mir
/-! ### Session.path -/
abbrev s_Session_path : Stmt := inClass (top 25) 20
theorem sc_Session_path : FnScope ["self", "from_state", "to_state", "way_up", "turn", "way_down"] ["self", "from_state", "to_state"] (defScope s_Session_path) := ⟨rfl, rfl, rfl, by decide +kernel, rfl, by decide +kernel, by decide +kernel⟩
theorem ok_Session_path {P : Program} {w : World} {K : PySem.W.Frag} {mg : Str → Option Value} {base : Heap} {A : Ad} {f : Addr} {fd : FuncData} (F : Fun K "path" "Session.path" s_Session_path f fd) (T : Txt K mg A)
    (m_Tree_find_state : MetX P w K mg base (L2.CX P w) 4 A.cs.T "find_state" ["self", "number"] (sp_Tree_find_state K A))
    (m_Tree_path : MetX P w K mg base CX0 2 A.cs.T "path" ["self", "from_state", "to_state"] (sp_Tree_path K A))
    (m_counted : DefX P w K mg base CX0 1 "counted" ["numbers"] (sp_counted K A))
    : FnOk P w K mg base (L2.CX P w) 8 f fd ["self", "from_state", "to_state"] (sp_Session_path K A) := by
  have sc := sc_Session_path
  refine F.okX sc (fun vs H Q E h => sp_Session_path_len h) (fun cdv AA outer s H vs Q E hr h => ?_)
  have tk0 : Takes (cxOf (L2.CX P w) P w K mg base ["self", "from_state", "to_state", "way_up", "turn", "way_down"] "Session.path" (defScope s_Session_path) f cdv AA outer s H E) (fun cls d _ H => E cls d H) := takes_of rfl rfl rfl rfl
  refine ⟨_, (pss_cons (ps_expr (pe_m m_Tree_find_state (pe_fld (pv 0) rfl) T.clT hr (by decide) (passX tk0) (pa_cons (pv 1) pa_nil)))
      (pss_cons (ps_expr (pe_m m_Tree_find_state (pe_fld (pv 0) rfl) T.clT hr (by decide) (passX tk0) (pa_cons (pv 2) pa_nil)))
      (pss_cons (ps_asg (pe_m m_Tree_path (pe_fld (pv 0) rfl) T.clT hr (by decide) pass0 (pa_cons (pv 1) (pa_cons (pv 2) pa_nil))) (pg_tup rfl (pgs_cons (pg_name (i := 3) sc.nd rfl (Or.inl rfl)) (pgs_cons (pg_name (i := 4) sc.nd rfl (Or.inl rfl)) (pgs_cons (pg_name (i := 5) sc.nd rfl (Or.inl rfl)) pgs_nil)))))
      (pss_one (ps_ret (pe_f m_counted hr (by decide) pass0 (pa_cons (pe_op op_cat (pe_op op_cat (pv 3) (pe_lst (pa_cons (pv 4) pa_nil))) (pv 5)) pa_nil))))))), ?_⟩
  obtain ⟨a, ρ, s, m, n, rfl, sa, k⟩ := h
  have sa0 := sa
  obtain ⟨own, hS, w⟩ := sa
  have hS0 := hS
  obtain ⟨r, dx, ta, d, L, gv, e, hA, hg⟩ := hS
  have hA0 := hA
  obtain ⟨dt, hT⟩ := hA.obj
  unfold doPath at k
  refine ⟨_, rfl, a, _, dx, _, _, rfl, e, T.clE, T.nE_tree, se_tree, ta, dt, _, rfl, hT, tr_no (by decide +kernel), _, rfl, ⟨ta, d, ρ, s.tree, L, m, rfl, hA, fun x sb q mb => ?_, fun q => ?_⟩⟩
  rotate_left
  · rw [if_pos (.inl (by rw [q]; rfl))] at k
    exact k
  refine ⟨_, rfl, a, _, dx, _, _, rfl, e, T.clE, T.nE_tree, se_tree, ta, dt, _, rfl, hT, tr_no (by decide +kernel), _, rfl, ⟨ta, d, ρ, s.tree, L, n, rfl, hA, fun x2 sb2 q2 mb2 => ?_, fun q2 => ?_⟩⟩
  rotate_left
  · rw [if_pos (.inr (by rw [q2]; rfl))] at k
    exact k
  rw [if_neg (by rw [q, q2]; simp)] at k
  have hm : (s.tree.find m).isSome = true := by rw [q]; rfl
  have hn : (s.tree.find n).isSome = true := by rw [q2]; rfl
  refine ⟨_, rfl, a, _, dx, _, _, rfl, e, T.clE, T.nE_tree, se_tree, ta, dt, _, rfl, hT, tr_no (by decide +kernel), _, rfl, _, rfl, ⟨ta, d, ρ, s.tree, L, m, n, x, x2, rfl, ⟨own, hA, w.tree⟩, q, q2, fun H1 p u wd s1 hu hw hne ep eu ew => ?_⟩⟩
  refine ⟨p, _, rfl, SqT.of ep, rfl, _, _, rfl, _, _, rfl, _, _, rfl, rfl, ?_⟩
  have l1 : (s.tree.pathUp m n).length ≤ 100 := by
    unfold Tr.pathUp
    rw [List.length_reverse, List.length_drop]
    have := way_len w.tree hm
    omega
  have l2 : (s.tree.pathDown m n).length ≤ 100 := by
    unfold Tr.pathDown
    rw [List.length_drop]
    have := way_len w.tree hn
    omega
  refine ⟨_, rfl, _, rfl, (by show 1 ≤ sizeLine; decide), fun q1 h1 => ?_⟩
  have s2 : Same H1 (upd H1 q1 (.lst [vn (s.tree.pathTurn m n)])) := same_new h1
  refine ⟨u, q1, _, _, rfl, rfl, s2 _ _ eu, upd_same, (by rw [nl_len]; show _ + 1 ≤ _; exact size_le (by omega)), fun q3 h3 => ?_⟩
  have s3 := s2.trans (same_new (o := .lst (nl (s.tree.pathUp m n) ++ [vn (s.tree.pathTurn m n)])) h3)
  refine ⟨_, rfl, q3, wd, _, _, rfl, rfl, upd_same, s3 _ _ ew, ?_, fun q4 h4 => ?_⟩
  · rw [List.length_append, nl_len, nl_len]
    show _ + 1 + _ ≤ _
    exact size_le (by omega)
  have e4 : nl (s.tree.pathUp m n) ++ [vn (s.tree.pathTurn m n)] ++ nl (s.tree.pathDown m n) = nl (s.tree.pathUp m n ++ [s.tree.pathTurn m n] ++ s.tree.pathDown m n) := by
    rw [nl_app, nl_app]
    rfl
  rw [e4]
  have s4 := (s1.trans s3).trans (same_new (o := .lst (nl (s.tree.pathUp m n ++ [s.tree.pathTurn m n] ++ s.tree.pathDown m n))) h4)
  refine ⟨q4, _, rfl, upd_same, ?_, resl (own.same s4) (hS0.same s4) (Fr.of_same s4) k⟩
  rw [List.length_append, List.length_append]
  show _ + 1 + _ ≤ _
  omega
end UB
namespace UB
open PySem PySem.Spec PyProof.Rows L2
open Ue03 (Change)
open Mir
/-! ### Session.origins -/
abbrev s_Session_origins : Stmt := inClass (top 25) 21
theorem sc_Session_origins : FnScope ["self", "way", "found", "number", "made"] ["self"] (defScope s_Session_origins) := ⟨rfl, rfl, rfl, by decide +kernel, rfl, by decide +kernel, by decide +kernel⟩
theorem ok_Session_origins {P : Program} {w : World} {K : PySem.W.Frag} {mg : Str → Option Value} {base : Heap} {A : Ad} {f : Addr} {fd : FuncData} (F : Fun K "origins" "Session.origins" s_Session_origins f fd) (T : Txt K mg A)
    (m_Session_refuse_open_group : MetX P w K mg base (L2.CX P w) 4 A.cs.E "refuse_open_group" ["self"] (sp_Session_refuse_open_group K A))
    (m_Tree_way_to : MetX P w K mg base CX0 1 A.cs.T "way_to" ["self", "number"] (sp_Tree_way_to K A))
    (m_origins_after : DefX P w K mg base CX0 2 "origins_after" ["origins", "change", "number"] (sp_origins_after K A))
    (m_counted : DefX P w K mg base CX0 1 "counted" ["numbers"] (sp_counted K A))
    : FnOk P w K mg base (L2.CX P w) 8 f fd ["self"] (sp_Session_origins K A) := by
  have sc := sc_Session_origins
  refine F.okX sc (fun vs H Q E h => sp_Session_origins_len h) (fun cdv AA outer s H vs Q E hr h => ?_)
  have tk0 : Takes (cxOf (L2.CX P w) P w K mg base ["self", "way", "found", "number", "made"] "Session.origins" (defScope s_Session_origins) f cdv AA outer s H E) (fun cls d _ H => E cls d H) := takes_of rfl rfl rfl rfl
  refine ⟨_, (pss_cons (ps_expr (pe_m0 m_Session_refuse_open_group (pv 0) T.clE hr (by decide) (passX tk0)))
      (pss_cons (ps_set (i := 1) sc.nd rfl (Or.inl rfl) (pe_m m_Tree_way_to (pe_fld (pv 0) rfl) T.clT hr (by decide) pass0 (pa_cons (pe_fld (pe_fld (pv 0) rfl) rfl) pa_nil)))
      (pss_cons (ps_set (i := 2) sc.nd rfl (Or.inl rfl) (pe_op op_rep (pe_lst (pa_cons (pe_ix ix_list (pv 1) pe_int (fun _ _ => rfl)) pa_nil)) (pe_callB call_len_seq (by rfl) T.len PySem.boot_len (pa_cons (pe_fld (pe_dget (hu_of hr) (pe_fld (pe_fld (pv 0) rfl) rfl) (pe_ix ix_list (pv 1) pe_int (fun _ _ => rfl)) (fun _ _ => rfl)) rfl) pa_nil))))
      (pss_cons (ps_for (passes_of rfl) rfl (pi_list (pv 1)) (pg_name (i := 3) sc.nd rfl (Or.inl rfl)) (pss_one (ps_for (passes_of rfl) rfl (pi_list (pe_fld (pe_dget (hu_of hr) (pe_fld (pe_fld (pv 0) rfl) rfl) (pv 3) (fun _ _ => rfl)) rfl)) (pg_name (i := 4) sc.nd rfl (Or.inl rfl)) (pss_one (ps_set (i := 2) sc.nd rfl (Or.inl rfl) (pe_f m_origins_after hr (by decide) pass0 (pa_cons (pv 2) (pa_cons (pv 4) (pa_cons (pv 3) pa_nil)))))))))
      (pss_one (ps_ret (pe_f m_counted hr (by decide) pass0 (pa_cons (pv 2) pa_nil)))))))), ?_⟩
  obtain ⟨a, ρ, s, rfl, sa, k⟩ := h
  have sa0 := sa
  obtain ⟨own, hS, w⟩ := sa
  have hS0 := hS
  obtain ⟨r, dx, ta, d, L, gv, e, hA, hg⟩ := hS
  have hA0 := hA
  obtain ⟨dt, hT⟩ := hA.obj
  unfold doOrigins at k
  refine ⟨_, rfl, a, dx, _, rfl, e, se_no (by decide +kernel), ⟨a, ρ, s, rfl, hS0, fun hn => ?_, fun hs => ret_open k hs⟩⟩
  have k := ret_shut k hn
  have hc := w.tree.here
  refine ⟨_, rfl, a, _, dx, _, _, rfl, e, T.clE, T.nE_tree, se_tree, ta, dt, _, rfl, hT, tr_no (by decide +kernel), _, rfl, a, _, dx, _, _, rfl, e, T.clE, T.nE_tree, se_tree, ta, _, dt, _, _, rfl, hT, T.clT, T.nT_current, tr_current, ⟨ta, d, ρ, s.tree, L, s.tree.current, _, rfl, ⟨own, hA, w.tree⟩, find_get hc, fun wa H1 f1 s1 e1 => ?_⟩⟩
  obtain ⟨rr, er⟩ := way_root w.tree _ hc
  have hw0 : (s.tree.way s.tree.current).headD 0 = s.tree.root := by rw [er]; rfl
  have at0 : (s.tree.way s.tree.current)[0]? = some s.tree.root := by rw [er]; rfl
  have hr0 := w.tree.rootNode.1
  have wl := way_len w.tree hc
  -- the first list
  refine ⟨_, rfl, wa, _, 0, _, rfl, rfl, SqL.of e1, (show atI _ ((0 : Nat) : Int) = _ from atI_nat (nl_at at0)), (by show 1 ≤ sizeLine; decide), fun q1 h1 => ?_⟩
  have s2 : Same H1 (upd H1 q1 (.lst [vn s.tree.root])) := same_new h1
  have s12 := s1.trans s2
  have hA2 := hA.same s12
  obtain ⟨sb, mb, gb, _⟩ := tr_some hA2 (find_get hr0)
  obtain ⟨_, ds, cb, tb, hb, as, eb, _, lb, _⟩ := hA2.at_ _ mb
  refine ⟨_, rfl, a, _, dx, _, _, rfl, s12 _ _ e, T.clE, T.nE_tree, se_tree, ta, _, dt, _, _, rfl, s12 _ _ hT, T.clT, T.nT_states, tr_states, _, rfl, wa, _, 0, _, rfl, rfl, SqL.of (s2 _ _ e1), (show atI _ ((0 : Nat) : Int) = _ from atI_nat (nl_at at0)), d, _, rfl, gb, sb, _, ds, _, _, rfl, eb, T.clS, T.nS_text, st_text, tb, _, rfl, .inl (SqL.of lb.2), ?_⟩
  dsimp only at lb
  have short : (sb, s.tree.get s.tree.root).2.text.length ≤ 300 := w.tree.short _ (get_mem hr0)
  have short3 : (s.tree.get s.tree.root).text.length ≤ 300 := short
  refine ⟨q1, _, _, rfl, rfl, upd_same, (by rw [nl_len]; omega), (by rw [nl_len]; omega), (by rw [nl_len]; exact size_le (by simp; omega)), fun q2 h2 => ?_⟩
  rw [rep_one]
  have s3 := s12.trans (same_new (o := .lst (nl (List.replicate (s.tree.get s.tree.root).text.length s.tree.root))) h2)
  have e1' := same_new (o := .lst (nl (List.replicate (s.tree.get s.tree.root).text.length s.tree.root))) h2 _ _ (s2 _ _ e1)
  -- the loop over the way
  refine ⟨_, rfl, wa, rfl, ⟨_, SqL.of e1'⟩, for_it (walk_list (K := K) (xs := nl (s.tree.way s.tree.current))) (fun i σ Hc => ∃ (v3 v4 : Option V) (fa : Addr) (l : List Nat), σ = [some (.ref a), some (.ref wa), some (.ref fa), v3, v4] ∧ Same H1 Hc ∧ Hc fa = some (.lst (nl l)) ∧
    l = ((s.tree.way s.tree.current).take i).foldl (fun l k => (s.tree.get k).changes.foldl (origin1 k) l) (List.replicate (s.tree.get s.tree.root).text.length s.tree.root) ∧ l.length ≤ 300 + 35000 * i) ?_ (fun i σ Hc _ h => ?_) ?_ ?_⟩
  · refine ⟨none, none, q2, _, rfl, s2.trans (same_new h2), upd_same, rfl, ?_⟩
    rw [List.length_replicate]
    omega
  · obtain ⟨_, _, _, _, _, g1, _⟩ := h
    exact SqL.of (g1 _ _ e1)
  · rintro i v σ Hc H' hi ⟨v3, v4, fa, l, rfl, g1, g2, gl, glen⟩ ⟨rfl, hv⟩
    rw [nl_len] at hi
    obtain ⟨m, hm⟩ : ∃ m, (s.tree.way s.tree.current)[i]? = some m := ⟨_, List.getElem?_eq_getElem hi⟩
    rw [nl_at hm] at hv
    have hv2 := Option.some.inj hv
    subst hv2
    have hf := (way_mem w.tree _ hc m (List.mem_of_getElem? hm)).1
    have sc1 := s1.trans g1
    have hA3 := hA.same sc1
    obtain ⟨sm, mm, gm, _⟩ := tr_some hA3 (find_get hf)
    obtain ⟨_, dm, cm, tm, hmm, asm, em, ⟨rcm, ecm, csm⟩, _⟩ := hA3.at_ _ mm
    dsimp only at em ecm csm
    have few := w.tree.few _ (get_mem hf)
    refine ⟨_, rfl, a, _, dx, _, _, rfl, sc1 _ _ e, T.clE, T.nE_tree, se_tree, ta, _, dt, _, _, rfl, sc1 _ _ hT, T.clT, T.nT_states, tr_states, _, rfl, d, _, rfl, gm, sm, _, dm, _, _, rfl, em, T.clS, T.nS_changes, st_changes, cm, rfl, ⟨_, SqL.of ecm⟩, for_it (walk_list (K := K) (xs := asm.map V.ref)) (fun j σ Hd => ∃ (v4 : Option V) (fb : Addr) (l2 : List Nat), σ = [some (.ref a), some (.ref wa), some (.ref fb), some (vn m), v4] ∧ Same H' Hd ∧ Hd fb = some (.lst (nl l2)) ∧
      l2 = ((s.tree.get m).changes.take j).foldl (origin1 m) l ∧ l2.length ≤ 300 + 35000 * i + 350 * j) ?_ (fun j σ Hd _ h => ?_) ?_ ?_⟩
    · exact ⟨v4, fa, l, rfl, Same.refl _, g2, rfl, by omega⟩
    · obtain ⟨_, _, _, _, g4, _⟩ := h
      exact SqL.of (g4 _ _ ecm)
    · rintro j v σ Hd He hj ⟨v4, fb, l2, rfl, g4, g5, gl2, glen2⟩ ⟨rfl, hv⟩
      rw [List.length_map] at hj
      obtain ⟨cA, hcA⟩ : ∃ cA, asm[j]? = some cA := ⟨_, List.getElem?_eq_getElem hj⟩
      rw [List.getElem?_map, hcA] at hv
      have hv2 : V.ref cA = v := Option.some.inj hv
      subst hv2
      obtain ⟨c, hcc, hchg⟩ := csm.at hcA
      obtain ⟨ia, ec1, ec2⟩ := chg_at hchg
      have cmem := List.mem_of_getElem? hcc
      have jle : j < (s.tree.get m).changes.length := by rw [← csm.len]; exact hj
      refine ⟨_, rfl, _, rfl, _, rfl, ⟨fb, cA, ia, m, l2, c, rfl, g5, g4 _ _ ec1, g4 _ _ ec2, by omega, few.2 c cmem, fun p H3 hp s5 e5 => ?_⟩⟩
      have hin := few.2 c cmem
      refine ⟨some (.ref cA), p, origin1 m l2 c, rfl, g4.trans s5, e5, ?_, ?_⟩
      · have more : (s.tree.get m).changes.take (j + 1) = (s.tree.get m).changes.take j ++ [c] := by
          rw [List.take_succ, hcc]
          rfl
        rw [more, List.foldl_append, ← gl2]
        rfl
      · unfold origin1 Ue03.put
        rw [List.length_append, List.length_append, List.length_take, List.length_drop, List.length_replicate]
        omega
    · rintro σ Hd ⟨v4, fb, l2, rfl, g4, g5, gl2, glen2⟩
      rw [List.length_map, csm.len] at gl2 glen2
      rw [List.take_length] at gl2
      refine ⟨some (vn m), v4, fb, l2, rfl, g1.trans g4, g5, ?_, by omega⟩
      have more : (s.tree.way s.tree.current).take (i + 1) = (s.tree.way s.tree.current).take i ++ [m] := by
        rw [List.take_succ, hm]
        rfl
      rw [more, List.foldl_append, ← gl, gl2]
      rfl
  · rintro σ Hc ⟨v3, v4, fa, l, rfl, g1, g2, gl, glen⟩
    rw [nl_len] at gl glen
    rw [List.take_length] at gl
    have sc1 := s1.trans g1
    refine ⟨_, rfl, ⟨fa, l, rfl, g2, by omega, ?_⟩⟩
    have nk := resl (own.same sc1) (hS0.same sc1) (Fr.of_same sc1) k
    unfold Tr.origins at nk
    rw [hw0, ← gl] at nk
    exact nk
end UB
namespace UB
open PySem PySem.Spec PyProof.Rows L2
open Ue03 (Change)
open Mir
/-! ### Session.region_start -/
abbrev s_Session_region_start : Stmt := inClass (top 25) 22
theorem sc_Session_region_start : FnScope ["self", "number", "way", "position", "removed", "inserted", "start", "number_behind", "made"] ["self", "number"] (defScope s_Session_region_start) := ⟨rfl, rfl, rfl, by decide +kernel, rfl, by decide +kernel, by decide +kernel⟩
theorem ok_Session_region_start {P : Program} {w : World} {K : PySem.W.Frag} {mg : Str → Option Value} {base : Heap} {A : Ad} {f : Addr} {fd : FuncData} (F : Fun K "region_start" "Session.region_start" s_Session_region_start f fd) (T : Txt K mg A)
    (m_Tree_way_to : MetX P w K mg base CX0 1 A.cs.T "way_to" ["self", "number"] (sp_Tree_way_to K A))
    (m_region_start_after : DefX P w K mg base (L2.CX P w) 4 "region_start_after" ["start", "length", "change"] (sp_region_start_after K A))
    : FnOk P w K mg base (L2.CX P w) 5 f fd ["self", "number"] (sp_Session_region_start K A) := by
  have sc := sc_Session_region_start
  refine F.okX sc (fun vs H Q E h => sp_Session_region_start_len h) (fun cdv AA outer s H vs Q E hr h => ?_)
  have tk0 : Takes (cxOf (L2.CX P w) P w K mg base ["self", "number", "way", "position", "removed", "inserted", "start", "number_behind", "made"] "Session.region_start" (defScope s_Session_region_start) f cdv AA outer s H E) (fun cls d _ H => E cls d H) := takes_of rfl rfl rfl rfl
  refine ⟨_, (pss_cons (ps_set (i := 2) sc.nd rfl (Or.inl rfl) (pe_m m_Tree_way_to (pe_fld (pv 0) rfl) T.clT hr (by decide) pass0 (pa_cons (pe_fld (pe_fld (pv 0) rfl) rfl) pa_nil)))
      (pss_cons (ps_asg (pe_ix ix_list (pe_fld (pe_dget (hu_of hr) (pe_fld (pe_fld (pv 0) rfl) rfl) (pv 1) (fun _ _ => rfl)) rfl) pe_int (fun _ _ => rfl)) (pg_tup rfl (pgs_cons (pg_name (i := 3) sc.nd rfl (Or.inl rfl)) (pgs_cons (pg_name (i := 4) sc.nd rfl (Or.inl rfl)) (pgs_cons (pg_name (i := 5) sc.nd rfl (Or.inl rfl)) pgs_nil)))))
      (pss_cons (ps_set (i := 6) sc.nd rfl (Or.inl rfl) (pv 3))
      (pss_cons (ps_for (passes_of rfl) rfl (pi_list (pe_slice sl_list (pv 2) (po_some (pe_op op_add (pe_bm PySem.F.plainAttrs_list PySem.F.slot_list_index PySem.F.type_list_index mt_index (pv 2) (pa_cons (pv 1) pa_nil)) pe_int)) po_none)) (pg_name (i := 7) sc.nd rfl (Or.inl rfl)) (pss_one (ps_for (passes_of rfl) rfl (pi_list (pe_fld (pe_dget (hu_of hr) (pe_fld (pe_fld (pv 0) rfl) rfl) (pv 7) (fun _ _ => rfl)) rfl)) (pg_name (i := 8) sc.nd rfl (Or.inl rfl)) (pss_one (ps_set (i := 6) sc.nd rfl (Or.inl rfl) (pe_f m_region_start_after hr (by decide) (passX tk0) (pa_cons (pv 6) (pa_cons (pe_callB call_len_seq (by rfl) T.len PySem.boot_len (pa_cons (pv 5) pa_nil)) (pa_cons (pv 8) pa_nil)))))))))
      (pss_one (ps_ret (pv 6))))))), ?_⟩
  obtain ⟨a, ρ, s, n, x, c, rfl, sa, q, hin, hxc, k⟩ := h
  have sa0 := sa
  obtain ⟨own, hS, w⟩ := sa
  have hS0 := hS
  obtain ⟨r, dx, ta, d, L, gv, e, hA, hg⟩ := hS
  have hA0 := hA
  obtain ⟨dt, hT⟩ := hA.obj
  have hc := w.tree.here
  have hn : (s.tree.find n).isSome = true := by rw [q]; rfl
  refine ⟨_, rfl, a, _, dx, _, _, rfl, e, T.clE, T.nE_tree, se_tree, ta, dt, _, rfl, hT, tr_no (by decide +kernel), _, rfl, a, _, dx, _, _, rfl, e, T.clE, T.nE_tree, se_tree, ta, _, dt, _, _, rfl, hT, T.clT, T.nT_current, tr_current, ⟨ta, d, ρ, s.tree, L, s.tree.current, _, rfl, ⟨own, hA, w.tree⟩, find_get hc, fun wa H1 f1 s1 e1 => ?_⟩⟩
  have hA1 := hA.same s1
  obtain ⟨sb, mb, gb, _⟩ := tr_some hA1 q
  obtain ⟨_, ds, cb, tb, hb, as, eb, ⟨rcb, ecb, csb⟩, lb, _⟩ := hA1.at_ _ mb
  dsimp only at eb ecb csb
  have at0 : ∃ cA, as[0]? = some cA ∧ ChgA ρ H1 cA c := by
    rw [hxc] at csb
    match as, csb with
    | [cA], h => exact ⟨cA, rfl, h.1⟩
  obtain ⟨cA, hcA, hchg⟩ := at0
  obtain ⟨ia, ec1, ec2⟩ := chg_at hchg
  have hcv : (as.map V.ref)[0]? = some (V.ref cA) := by rw [List.getElem?_map, hcA]; rfl
  refine ⟨_, rfl, a, _, dx, _, _, rfl, s1 _ _ e, T.clE, T.nE_tree, se_tree, ta, _, dt, _, _, rfl, s1 _ _ hT, T.clT, T.nT_states, tr_states, _, rfl, d, _, rfl, gb, sb, _, ds, _, _, rfl, eb, T.clS, T.nS_changes, st_changes, cb, _, 0, _, rfl, rfl, SqL.of ecb, (show atI _ ((0 : Nat) : Int) = _ from atI_nat hcv), ?_⟩
  refine ⟨cA, _, rfl, SqT.of ec1, rfl, _, _, rfl, _, _, rfl, _, _, rfl, rfl, ?_⟩
  refine ⟨_, rfl, ?_⟩
  -- where n stands on the way
  obtain ⟨j0, hj0, hfirst⟩ := first_at hin
  have hidx : (s.tree.way s.tree.current).idxOf n = j0 := idx_first hj0 hfirst
  refine ⟨_, rfl, _, rfl, .inl ⟨rfl, _, SqL.of e1⟩, _, rfl, wa, _, vn n, j0, vn n, rfl, rfl, SqL.of e1, rfl, flat_nl _, nl_at hj0, (by show ((n : Int) == (n : Int)) = true; simp), ?_, ?_⟩
  · intro m z hm hz
    obtain ⟨z', hz', rfl⟩ : ∃ z', (s.tree.way s.tree.current)[m]? = some z' ∧ z = vn z' := by
      unfold nl at hz
      rw [List.getElem?_map] at hz
      obtain ⟨z', h1, h2⟩ := Option.map_eq_some_iff.mp hz
      exact ⟨z', h1, h2.symm⟩
    have ne : z' ≠ n := fun y => hfirst m hm (by rw [hz', y])
    show ((z' : Int) == (n : Int)) = false
    exact beq_false_of_ne fun y => ne (Int.ofNat.inj y)
  refine ⟨_, _, rfl, rfl, _, rfl, wa, _, rfl, SqL.of e1, fun q1 h1 => ?_⟩
  rw [show (some ((j0 : Int) + 1)) = some ((j0 + 1 : Nat) : Int) from rfl, cut_from]
  have s2 : Same H1 (upd H1 q1 (.lst (nl ((s.tree.way s.tree.current).drop (j0 + 1))))) := same_new h1
  have s12 := s1.trans s2
  unfold Tr.region at k
  rw [hidx] at k
  generalize hB : (s.tree.way s.tree.current).drop (j0 + 1) = behind at *
  have hbeh : ∀ m ∈ behind, (s.tree.find m).isSome = true := fun m hm => by
    rw [← hB] at hm
    exact (way_mem w.tree _ hc m (List.mem_of_mem_drop hm)).1
  -- refused: what is behind can't mend it
  have dead : ∀ l : List Change, l.foldl (shift c.in_.length) none = none := by
    intro l
    induction l with
    | nil => rfl
    | cons c l ih => exact ih
  refine ⟨q1, rfl, ⟨_, SqL.of upd_same⟩, for_it (walk_list (K := K) (xs := nl behind)) (fun i σ Hc => ∃ (v7 v8 : Option V) (b : Nat), σ = [some (.ref a), some (vn n), some (.ref wa), some (vn c.at_), some (vn c.out), some (.ref ia), some (vn b), v7, v8] ∧ Same (upd H1 q1 (.lst (nl behind))) Hc ∧
    ((behind.take i).flatMap fun k => (s.tree.get k).changes).foldl (shift c.in_.length) (some c.at_) = some b) ?_ (fun i σ Hc _ h => ?_) ?_ ?_⟩
  · exact ⟨none, none, c.at_, rfl, Same.refl _, rfl⟩
  · obtain ⟨_, _, _, _, g1, _⟩ := h
    exact SqL.of (g1 _ _ upd_same)
  · rintro i v σ Hc H' hi ⟨v7, v8, b, rfl, g1, gb1⟩ ⟨rfl, hv⟩
    rw [nl_len] at hi
    obtain ⟨m, hm⟩ : ∃ m, behind[i]? = some m := ⟨_, List.getElem?_eq_getElem hi⟩
    rw [nl_at hm] at hv
    have hv2 := Option.some.inj hv
    subst hv2
    have hf := hbeh m (List.mem_of_getElem? hm)
    have sc1 := s12.trans g1
    have hA3 := hA.same sc1
    obtain ⟨sm, mm, gm, _⟩ := tr_some hA3 (find_get hf)
    obtain ⟨_, dm, cm, tm, hmm, asm, em, ⟨rcm, ecm, csm⟩, _⟩ := hA3.at_ _ mm
    dsimp only at em ecm csm
    have split : ∀ j, (behind.flatMap fun k => (s.tree.get k).changes) = (((behind.take i).flatMap fun k => (s.tree.get k).changes) ++ (s.tree.get m).changes.take j) ++ ((s.tree.get m).changes.drop j ++ ((behind.drop (i + 1)).flatMap fun k => (s.tree.get k).changes)) := by
      intro j
      have e3 : behind = behind.take i ++ m :: behind.drop (i + 1) := by
        rw [List.getElem?_eq_getElem hi] at hm
        have := Option.some.inj hm
        rw [← this, List.getElem_cons_drop, List.take_append_drop]
      conv => lhs; rw [e3]
      rw [List.flatMap_append, List.flatMap_cons, List.append_assoc, ← List.append_assoc ((s.tree.get m).changes.take j), List.take_append_drop]
    refine ⟨_, rfl, a, _, dx, _, _, rfl, sc1 _ _ e, T.clE, T.nE_tree, se_tree, ta, _, dt, _, _, rfl, sc1 _ _ hT, T.clT, T.nT_states, tr_states, _, rfl, d, _, rfl, gm, sm, _, dm, _, _, rfl, em, T.clS, T.nS_changes, st_changes, cm, rfl, ⟨_, SqL.of ecm⟩, for_it (walk_list (K := K) (xs := asm.map V.ref)) (fun j σ Hd => ∃ (v8 : Option V) (b2 : Nat), σ = [some (.ref a), some (vn n), some (.ref wa), some (vn c.at_), some (vn c.out), some (.ref ia), some (vn b2), some (vn m), v8] ∧ Same H' Hd ∧
      (((behind.take i).flatMap fun k => (s.tree.get k).changes) ++ (s.tree.get m).changes.take j).foldl (shift c.in_.length) (some c.at_) = some b2) ?_ (fun j σ Hd _ h => ?_) ?_ ?_⟩
    · refine ⟨v8, b, rfl, Same.refl _, ?_⟩
      rw [List.take_zero, List.append_nil]
      exact gb1
    · obtain ⟨_, _, _, g4, _⟩ := h
      exact SqL.of (g4 _ _ ecm)
    · rintro j v σ Hd He hj ⟨v8, b2, rfl, g4, gb2⟩ ⟨rfl, hv⟩
      rw [List.length_map] at hj
      obtain ⟨cB, hcB⟩ : ∃ cB, asm[j]? = some cB := ⟨_, List.getElem?_eq_getElem hj⟩
      rw [List.getElem?_map, hcB] at hv
      have hv2 : V.ref cB = v := Option.some.inj hv
      subst hv2
      obtain ⟨c2, hcc, hchg2⟩ := csm.at hcB
      obtain ⟨ib, ed1, ed2⟩ := chg_at hchg2
      have sd := g1.trans g4
      have more : (s.tree.get m).changes.take (j + 1) = (s.tree.get m).changes.take j ++ [c2] := by
        rw [List.take_succ, hcc]
        rfl
      refine ⟨_, rfl, _, rfl, ia, _, rfl, .inl (SqL.of (sd _ _ (s2 _ _ ec2))), _, rfl, ⟨b2, c.in_.length, cB, ib, c2, (by rw [len_v]), g4 _ _ ed1, g4 _ _ ed2, ?_⟩⟩
      cases z : shift c.in_.length (some b2) c2 with
      | some b3 =>
        refine ⟨some (.ref cB), b3, rfl, g4, ?_⟩
        rw [more, ← List.append_assoc, List.foldl_append, gb2]
        exact z
      | none =>
        have whole : (behind.flatMap fun k => (s.tree.get k).changes).foldl (shift c.in_.length) (some c.at_) = none := by
          have h2 : (((behind.take i).flatMap fun k => (s.tree.get k).changes) ++ (s.tree.get m).changes.take (j + 1)).foldl (shift c.in_.length) (some c.at_) = none := by
            rw [more, ← List.append_assoc, List.foldl_append, gb2]
            exact z
          rw [split (j + 1), List.foldl_append, h2]
          exact dead _
        rw [whole] at k
        exact Rz.same k (s12.trans sd)
    · rintro σ Hd ⟨v8, b2, rfl, g4, gb2⟩
      rw [List.length_map, csm.len, List.take_length] at gb2
      refine ⟨some (vn m), v8, b2, rfl, g1.trans g4, ?_⟩
      have more : behind.take (i + 1) = behind.take i ++ [m] := by
        rw [List.take_succ, hm]
        rfl
      rw [more, List.flatMap_append, List.flatMap_cons, List.flatMap_nil, List.append_nil]
      exact gb2
  · rintro σ Hc ⟨v7, v8, b, rfl, g1, gb1⟩
    rw [nl_len, List.take_length] at gb1
    rw [gb1] at k
    exact ⟨_, rfl, k Hc (s12.trans g1)⟩
end UB
namespace UB
open PySem PySem.Spec PyProof.Rows L2
open Ue03 (Change)
open Mir
/-! ### Session.revert -/
abbrev s_Session_revert : Stmt := inClass (top 25) 23
theorem sc_Session_revert : FnScope ["self", "number", "state", "position", "removed", "inserted", "restored", "reverting", "text"] ["self", "number"] (defScope s_Session_revert) := ⟨rfl, rfl, rfl, by decide +kernel, rfl, by decide +kernel, by decide +kernel⟩
theorem ok_Session_revert {P : Program} {w : World} {K : PySem.W.Frag} {mg : Str → Option Value} {base : Heap} {A : Ad} {f : Addr} {fd : FuncData} (F : Fun K "revert" "Session.revert" s_Session_revert f fd) (T : Txt K mg A)
    (m_Session_refuse_open_group : MetX P w K mg base (L2.CX P w) 4 A.cs.E "refuse_open_group" ["self"] (sp_Session_refuse_open_group K A))
    (m_Tree_find_state : MetX P w K mg base (L2.CX P w) 4 A.cs.T "find_state" ["self", "number"] (sp_Tree_find_state K A))
    (m_Tree_way_to : MetX P w K mg base CX0 1 A.cs.T "way_to" ["self", "number"] (sp_Tree_way_to K A))
    (r_NotOnThePath : RaiseC P w K mg base A.CR "NotOnThePath" (-6))
    (r_SeveralChanges : RaiseC P w K mg base A.CR "SeveralChanges" (-4))
    (m_Session_region_start : MetX P w K mg base (L2.CX P w) 5 A.cs.E "region_start" ["self", "number"] (sp_Session_region_start K A))
    (m_text_after : DefX P w K mg base CX0 1 "text_after" ["text", "change"] (sp_text_after K A))
    (m_Session_current_text : MetX P w K mg base CX0 2 A.cs.E "current_text" ["self"] (sp_Session_current_text K A))
    (r_RevertedTextTooLong : RaiseC P w K mg base A.CR "RevertedTextTooLong" (-5))
    (m_Tree_add_state : MetX P w K mg base CX0 3 A.cs.T "add_state" ["self", "time", "changes", "text"] (sp_Tree_add_state K A))
    : FnOk P w K mg base (L2.CX P w) 8 f fd ["self", "number"] (sp_Session_revert K A) := by
  have sc := sc_Session_revert
  refine F.okX sc (fun vs H Q E h => sp_Session_revert_len h) (fun cdv AA outer s H vs Q E hr h => ?_)
  have tk0 : Takes (cxOf (L2.CX P w) P w K mg base ["self", "number", "state", "position", "removed", "inserted", "restored", "reverting", "text"] "Session.revert" (defScope s_Session_revert) f cdv AA outer s H E) (fun cls d _ H => E cls d H) := takes_of rfl rfl rfl rfl
  refine ⟨_, (pss_cons (ps_expr (pe_m0 m_Session_refuse_open_group (pv 0) T.clE hr (by decide) (passX tk0)))
      (pss_cons (ps_set (i := 2) sc.nd rfl (Or.inl rfl) (pe_m m_Tree_find_state (pe_fld (pv 0) rfl) T.clT hr (by decide) (passX tk0) (pa_cons (pv 1) pa_nil)))
      (pss_cons (ps_if (PW.pt (pw_or (pt_cmpR op_isN (pe_fld (pv 2) rfl) pe_non (nomark _)) (pw_or1 (pt_cmpR op_notIn_seq (pv 1) (pe_m m_Tree_way_to (pe_fld (pv 0) rfl) T.clT hr (by decide) pass0 (pa_cons (pe_fld (pe_fld (pv 0) rfl) rfl) pa_nil)) (by rfl))))) (pss_one (ps_rz r_NotOnThePath rfl hr (by decide) tk0)) pss_nil)
      (pss_cons (ps_if (pt_cmpR op_gt (pe_callB call_len_seq (by rfl) T.len PySem.boot_len (pa_cons (pe_fld (pv 2) rfl) pa_nil)) pe_int (nomark _)) (pss_one (ps_rz r_SeveralChanges rfl hr (by decide) tk0)) pss_nil)
      (pss_cons (ps_asg (pe_ix ix_list (pe_fld (pv 2) rfl) pe_int (fun _ _ => rfl)) (pg_tup rfl (pgs_cons (pg_name (i := 3) sc.nd rfl (Or.inl rfl)) (pgs_cons (pg_name (i := 4) sc.nd rfl (Or.inl rfl)) (pgs_cons (pg_name (i := 5) sc.nd rfl (Or.inl rfl)) pgs_nil)))))
      (pss_cons (ps_set (i := 6) sc.nd rfl (Or.inl rfl) (pe_slice sl_list (pe_fld (pe_dget (hu_of hr) (pe_fld (pe_fld (pv 0) rfl) rfl) (pe_fld (pv 2) rfl) (fun _ _ => rfl)) rfl) (po_some (pv 3)) (po_some (pe_op op_add (pv 3) (pv 4)))))
      (pss_cons (ps_set (i := 7) sc.nd rfl (Or.inl rfl) (pe_tup (pa_cons (pe_m m_Session_region_start (pv 0) T.clE hr (by decide) (passX tk0) (pa_cons (pv 1) pa_nil)) (pa_cons (pe_callB call_len_seq (by rfl) T.len PySem.boot_len (pa_cons (pv 5) pa_nil)) (pa_cons (pv 6) pa_nil)))))
      (pss_cons (ps_set (i := 8) sc.nd rfl (Or.inl rfl) (pe_f m_text_after hr (by decide) pass0 (pa_cons (pe_m0 m_Session_current_text (pv 0) T.clE hr (by decide) pass0) (pa_cons (pv 7) pa_nil))))
      (pss_cons (ps_if (pt_cmpR op_gt (pe_callB call_len_seq (by rfl) T.len PySem.boot_len (pa_cons (pv 8) pa_nil)) (C8.pe_gc rfl T.c_LONGEST_TEXT) (nomark _)) (pss_one (ps_rz r_RevertedTextTooLong rfl hr (by decide) tk0)) pss_nil)
      (pss_one (ps_ret (pe_lst (pa_cons (pe_m m_Tree_add_state (pe_fld (pv 0) rfl) T.clT hr (by decide) pass0 (pa_cons (pe_fld (pv 0) rfl) (pa_cons (pe_lst (pa_cons (pv 7) pa_nil)) (pa_cons (pv 8) pa_nil)))) (pa_cons (pe_callB call_len_seq (by rfl) T.len PySem.boot_len (pa_cons (pv 8) pa_nil)) pa_nil)))))))))))))), ?_⟩
  obtain ⟨a, ρ, s, n, rfl, sa, k⟩ := h
  have sa0 := sa
  obtain ⟨own, hS, w⟩ := sa
  have hS0 := hS
  obtain ⟨r, dx, ta, d, L, gv, e, hA, hg⟩ := hS
  have hA0 := hA
  obtain ⟨dt, hT⟩ := hA.obj
  unfold doRevert at k
  refine ⟨_, rfl, a, dx, _, rfl, e, se_no (by decide +kernel), ⟨a, ρ, s, rfl, hS0, fun hn => ?_, fun hs => ret_open k hs⟩⟩
  have k := ret_shut k hn
  have hc := w.tree.here
  have hsh := w.text_short
  refine ⟨_, rfl, a, _, dx, _, _, rfl, e, T.clE, T.nE_tree, se_tree, ta, dt, _, rfl, hT, tr_no (by decide +kernel), _, rfl, ⟨ta, d, ρ, s.tree, L, n, rfl, hA, fun x sb q mb => ?_, fun q => ?_⟩⟩
  rotate_left
  · rw [q] at k
    exact k
  rw [q] at k
  dsimp only at k
  have hx := find_mem q
  have hnum := find_num q
  have hfn : (s.tree.find n).isSome = true := by rw [q]; rfl
  have gx := get_find q
  obtain ⟨_, ds, cb, tb, hb, as, eb, ⟨rcb, ecb, csb⟩, lb, _⟩ := hA.at_ _ mb
  dsimp only at eb ecb csb
  refine ⟨_, rfl, sb, _, ds, _, _, rfl, eb, T.clS, T.nS_parent, st_parent, rfl, _, rfl, ?_⟩
  cases qp : x.parent with
  | none =>
    rw [qp] at k
    exact if_true_of rfl (if_true_of rfl k)
  | some p =>
  rw [qp] at k
  dsimp only at k
  refine if_false_of rfl ?_
  refine ⟨_, rfl, _, rfl, a, _, dx, _, _, rfl, e, T.clE, T.nE_tree, se_tree, ta, dt, _, rfl, hT, tr_no (by decide +kernel), _, rfl, a, _, dx, _, _, rfl, e, T.clE, T.nE_tree, se_tree, ta, _, dt, _, _, rfl, hT, T.clT, T.nT_current, tr_current, ⟨ta, d, ρ, s.tree, L, s.tree.current, _, rfl, ⟨own, hA, w.tree⟩, find_get hc, fun wa H1 f1 s1 e1 => ?_⟩⟩
  refine ⟨wa, _, rfl, .inl (SqL.of e1), rfl, flat_nl _, _, rfl, ?_⟩
  rw [if_pos rfl, in_nl]
  by_cases hin : n ∈ s.tree.way s.tree.current
  rotate_left
  · rw [if_pos hin] at k
    exact if_true_of (by rw [decide_eq_false hin]; rfl) (Rz.same k s1)
  rw [if_neg (fun z => z hin)] at k
  refine if_false_of (by rw [decide_eq_true hin]; rfl) ?_
  have eb1 := s1 _ _ eb
  have ecb1 := s1 _ _ ecb
  refine ⟨_, rfl, sb, _, ds, _, _, rfl, eb1, T.clS, T.nS_changes, st_changes, cb, _, rfl, .inl (SqL.of ecb1), _, _, rfl, rfl, _, rfl, ?_⟩
  have clen : (as.map V.ref).length = x.changes.length := by rw [List.length_map, csb.len]
  by_cases cs1 : 1 < x.changes.length
  · rw [if_pos cs1] at k
    exact if_true_of (decide_eq_true (by omega)) (Rz.same k s1)
  rw [if_neg cs1] at k
  refine if_false_of (decide_eq_false (by omega)) ?_
  -- its one change
  have hne : x.changes ≠ [] := by
    obtain ⟨x0, r0, e0, p0, _, rest⟩ := w.tree.root
    rw [e0] at hx
    rcases List.mem_cons.mp hx with rfl | hx
    · rw [p0] at qp
      cases qp
    · exact (rest x hx).2
  obtain ⟨c, hxc⟩ : ∃ c, x.changes = [c] := by
    match z : x.changes, hne, cs1 with
    | [c], _, _ => exact ⟨c, rfl⟩
    | _ :: _ :: _, _, h => simp at h
  rw [hxc] at k
  have k : Ret K A ρ H a Q E (match s.tree.region n c with
      | none => .error (-8)
      | some b => if 300 < (Ue03.changed s.text ⟨b, c.in_.length, ((s.tree.get p).text.drop c.at_).take c.out⟩).length then .error (-5) else .ok (s.put [⟨b, c.in_.length, ((s.tree.get p).text.drop c.at_).take c.out⟩] (Ue03.changed s.text ⟨b, c.in_.length, ((s.tree.get p).text.drop c.at_).take c.out⟩))) := k
  obtain ⟨cA, hcA, hchg⟩ : ∃ cA, as[0]? = some cA ∧ ChgA ρ H cA c := by
    rw [hxc] at csb
    match as, csb with
    | [cA], h => exact ⟨cA, rfl, h.1⟩
  obtain ⟨ia, ec1, ec2⟩ := chg_at hchg
  have hcv : (as.map V.ref)[0]? = some (V.ref cA) := by rw [List.getElem?_map, hcA]; rfl
  refine ⟨_, rfl, sb, _, ds, _, _, rfl, eb1, T.clS, T.nS_changes, st_changes, cb, _, 0, _, rfl, rfl, SqL.of ecb1, (show atI _ ((0 : Nat) : Int) = _ from atI_nat hcv), ?_⟩
  refine ⟨cA, _, rfl, SqT.of (s1 _ _ ec1), rfl, _, _, rfl, _, _, rfl, _, _, rfl, rfl, ?_⟩
  -- what it removed
  have hA1 := hA.same s1
  have hp : (s.tree.find p).isSome = true := (w.tree.parSome hfn (by rw [gx]; exact qp)).1
  obtain ⟨sp, mp, gp, _⟩ := tr_some hA1 (find_get hp)
  obtain ⟨_, dp, cp, tp, hp2, asp, ep, _, lp, _⟩ := hA1.at_ _ mp
  dsimp only at lp ep
  rw [qp] at eb1
  refine ⟨_, rfl, a, _, dx, _, _, rfl, s1 _ _ e, T.clE, T.nE_tree, se_tree, ta, _, dt, _, _, rfl, s1 _ _ hT, T.clT, T.nT_states, tr_states, _, rfl, sb, _, ds, _, _, rfl, eb1, T.clS, T.nS_parent, st_parent, d, _, rfl, gp, sp, _, dp, _, _, rfl, ep, T.clS, T.nS_text, st_text, _, rfl, _, rfl, _, rfl, _, rfl, _, _, rfl, rfl, _, rfl, tp, _, rfl, SqL.of lp.2, fun tr htr => ?_⟩
  have ecut : cutV (nl (s.tree.get p).text) (some (c.at_ : Int)) (some ((c.at_ : Int) + (c.out : Int))) = nl (((s.tree.get p).text.drop c.at_).take c.out) := by
    have := cut_mid (s.tree.get p).text c.at_ (c.at_ + c.out)
    rw [Nat.add_sub_cancel_left] at this
    exact this
  have s2 : Same H1 (upd H1 tr (.lst (cutV (nl (s.tree.get p).text) (some (c.at_ : Int)) (some ((c.at_ : Int) + (c.out : Int)))))) := same_new htr
  have s12 := s1.trans s2
  have etr : upd H1 tr (.lst (cutV (nl (s.tree.get p).text) (some (c.at_ : Int)) (some ((c.at_ : Int) + (c.out : Int))))) tr = some (.lst (nl (((s.tree.get p).text.drop c.at_).take c.out))) := by
    rw [upd_same, ecut]
  have rtr := own.free (s1.free htr)
  -- where its region starts
  refine ⟨_, rfl, a, dx, _, rfl, s12 _ _ e, se_no (by decide +kernel), _, rfl, ⟨a, ρ, s, n, x, c, rfl, ⟨own.same s12, hS0.same s12, w⟩, q, hin, hxc, ?_⟩⟩
  cases z : s.tree.region n c with
  | none =>
    rw [z] at k
    exact Rz.same k s12
  | some b =>
  rw [z] at k
  intro H3 s3
  have s13 := s12.trans s3
  refine ⟨_, rfl, ia, _, rfl, .inl (SqL.of (s13 _ _ ec2)), _, rfl, (by show 3 ≤ sizeLine; decide), fun ct hct => ?_⟩
  rw [len_v]
  have s4 : Same H3 (upd H3 ct (.tup [vn b, vn c.in_.length, .ref tr])) := same_new hct
  have s14 := s13.trans s4
  have rct := own.free (s13.free hct)
  have plen : ((s.tree.get p).text.drop c.at_).length ≤ 300 := by
    rw [List.length_drop]
    have := w.tree.short _ (get_mem hp)
    omega
  have tlen : (((s.tree.get p).text.drop c.at_).take c.out).length ≤ 300 := by
    have := (List.take_sublist c.out ((s.tree.get p).text.drop c.at_)).length_le
    omega
  refine ⟨_, rfl, a, dx, _, rfl, s14 _ _ e, se_no (by decide +kernel), ⟨a, ρ, s, rfl, hS0.same s14, hc, fun tx lx => ⟨_, rfl, ?_⟩⟩⟩
  refine ⟨tx, ct, tr, s.text, b, c.in_.length, ((s.tree.get p).text.drop c.at_).take c.out, rfl, lx.2, upd_same, s4 _ _ (s3 _ _ etr), by omega, fun tn H5 hn5 s5 e5 => ?_⟩
  have s15 := s14.trans s5
  have rtn := own.free (s14.free hn5)
  have own5 := own.same s15
  have hA5 := hA.same s15
  have e5E := s15 _ _ e
  refine ⟨_, rfl, tn, _, rfl, .inl (SqL.of e5), _, _, rfl, rfl, _, rfl, ?_⟩
  have hch : Ue03.put s.text b c.in_.length (((s.tree.get p).text.drop c.at_).take c.out) = Ue03.changed s.text ⟨b, c.in_.length, ((s.tree.get p).text.drop c.at_).take c.out⟩ := rfl
  rw [hch] at e5 ⊢
  dsimp only at k
  by_cases c3 : 300 < (Ue03.changed s.text ⟨b, c.in_.length, ((s.tree.get p).text.drop c.at_).take c.out⟩).length
  · rw [if_pos c3] at k
    exact if_true_of (decide_eq_true (by rw [nl_len]; omega)) (Rz.same k s15)
  rw [if_neg c3] at k
  refine if_false_of (decide_eq_false (by rw [nl_len]; omega)) ?_
  refine ⟨_, rfl, a, _, dx, _, _, rfl, e5E, T.clE, T.nE_tree, se_tree, ta, dt, _, rfl, s15 _ _ hT, tr_no (by decide +kernel), _, rfl, a, _, dx, _, _, rfl, e5E, T.clE, T.nE_clock, se_clock, _, rfl, (by show 1 ≤ sizeLine; decide), fun la hla => ⟨_, rfl, ?_⟩⟩
  have s6 : Same H5 (upd H5 la (.lst [.ref ct])) := same_new hla
  have s16 := s15.trans s6
  have hchg5 : ChgA ρ (upd H5 la (.lst [.ref ct])) ct ⟨b, c.in_.length, ((s.tree.get p).text.drop c.at_).take c.out⟩ :=
    ⟨tr, rct, s6 _ _ (s5 _ _ upd_same), rtr, s6 _ _ (s5 _ _ (s4 _ _ (s3 _ _ etr)))⟩
  refine ⟨ta, d, la, tn, ρ, s.tree, L, s.clock, [ct], [⟨b, c.in_.length, ((s.tree.get p).text.drop c.at_).take c.out⟩], _, rfl, ⟨own5.same s6, hA5.same s6, w.tree⟩, own5.free hla, upd_same, ⟨hchg5, trivial⟩, ⟨rtn, s6 _ _ e5⟩, fun H7 ρ7 new => ?_⟩
  obtain ⟨o7, ⟨d7, L7, hA7⟩, f7⟩ := new
  have hS7 := se_with (s := s) f7 r (s6 _ _ e5E) (hg.same s16) hA7
  have f17 : Fr All ρ H ρ7 H7 := (Fr.of_same s16).trans f7.all
  have e7 := (f7.keep (s6 _ _ e5) rtn).1
  refine ⟨_, rfl, tn, _, rfl, .inl (SqL.of e7), (by show 2 ≤ sizeLine; decide), fun pp hpp => ?_⟩
  exact disp (resl o7 hS7 f17 k) (by rw [len_v]; rfl) hpp
end UB
namespace UB
open PySem PySem.Spec PyProof.Rows L2
open Ue03 (Change)
open Mir
/-! ### Session.set_kept -/
abbrev s_Session_set_kept : Stmt := inClass (top 25) 24
theorem sc_Session_set_kept : FnScope ["self", "number", "kept", "state"] ["self", "number", "kept"] (defScope s_Session_set_kept) := ⟨rfl, rfl, rfl, by decide +kernel, rfl, by decide +kernel, by decide +kernel⟩
theorem ok_Session_set_kept {P : Program} {w : World} {K : PySem.W.Frag} {mg : Str → Option Value} {base : Heap} {A : Ad} {f : Addr} {fd : FuncData} (F : Fun K "set_kept" "Session.set_kept" s_Session_set_kept f fd) (T : Txt K mg A)
    (m_Tree_find_state : MetX P w K mg base (L2.CX P w) 4 A.cs.T "find_state" ["self", "number"] (sp_Tree_find_state K A))
    : FnOk P w K mg base (L2.CX P w) 8 f fd ["self", "number", "kept"] (sp_Session_set_kept K A) := by
  have sc := sc_Session_set_kept
  refine F.okX sc (fun vs H Q E h => sp_Session_set_kept_len h) (fun cdv AA outer s H vs Q E hr h => ?_)
  have tk0 : Takes (cxOf (L2.CX P w) P w K mg base ["self", "number", "kept", "state"] "Session.set_kept" (defScope s_Session_set_kept) f cdv AA outer s H E) (fun cls d _ H => E cls d H) := takes_of rfl rfl rfl rfl
  refine ⟨_, (pss_cons (ps_set (i := 3) sc.nd rfl (Or.inl rfl) (pe_m m_Tree_find_state (pe_fld (pv 0) rfl) T.clT hr (by decide) (passX tk0) (pa_cons (pv 1) pa_nil)))
      (pss_cons (ps_fld (pv 3) (pv 2) rfl)
      (pss_one (ps_ret (pe_lst (pa_cons pe_int pa_nil)))))), ?_⟩
  obtain ⟨a, ρ, s, n, kk, rfl, sa, k⟩ := h
  have sa0 := sa
  obtain ⟨own, hS, w⟩ := sa
  have hS0 := hS
  obtain ⟨r, dx, ta, d, L, gv, e, hA, hg⟩ := hS
  have hA0 := hA
  obtain ⟨dt, hT⟩ := hA.obj
  unfold doKeep at k
  refine ⟨_, rfl, a, _, dx, _, _, rfl, e, T.clE, T.nE_tree, se_tree, ta, dt, _, rfl, hT, tr_no (by decide +kernel), _, rfl, ⟨ta, d, ρ, s.tree, L, n, rfl, hA, fun x sb q mb => ?_, fun q => ?_⟩⟩
  rotate_left
  · rw [if_pos (by rw [q]; rfl)] at k
    exact k
  rw [if_neg (by rw [q]; simp)] at k
  have hnum := find_num q
  obtain ⟨ds, cb, tb, hb, eb, sto⟩ := st_keep (hA.at_ _ mb)
  refine ⟨_, rfl, _, rfl, sb, _, ds, _, rfl, eb, T.clS, T.nS_kept, by show 7 < 1000; decide, ?_⟩
  rw [st_put_kept]
  obtain ⟨hA2, f2⟩ := tr_obj hA (sorted_nodup w.tree.sorted) mb (f := fun x => { x with kept := kk }) (fun _ => rfl) (sto kk)
  rw [hnum] at hA2
  have hS2 := se_with f2 r e hg hA2
  refine ⟨(by show 1 ≤ sizeLine; decide), fun p hp => ?_⟩
  exact disp (resl own.upd hS2 f2.all k) rfl hp
end UB
namespace UB
open PySem PySem.Spec PyProof.Rows L2
open Ue03 (Change)
open Mir
/-! ### Session.forget -/
abbrev s_Session_forget : Stmt := inClass (top 25) 25
theorem sc_Session_forget : FnScope ["self", "limit"] ["self", "limit"] (defScope s_Session_forget) := ⟨rfl, rfl, rfl, by decide +kernel, rfl, by decide +kernel, by decide +kernel⟩
theorem ok_Session_forget {P : Program} {w : World} {K : PySem.W.Frag} {mg : Str → Option Value} {base : Heap} {A : Ad} {f : Addr} {fd : FuncData} (F : Fun K "forget" "Session.forget" s_Session_forget f fd) (T : Txt K mg A)
    (m_Session_refuse_open_group : MetX P w K mg base (L2.CX P w) 4 A.cs.E "refuse_open_group" ["self"] (sp_Session_refuse_open_group K A))
    (r_OutOfRange : RaiseC P w K mg base A.CR "OutOfRange" (-1))
    (m_counted : DefX P w K mg base CX0 1 "counted" ["numbers"] (sp_counted K A))
    (m_Tree_forget : MetX P w K mg base CX0 3 A.cs.T "forget" ["self", "limit"] (sp_Tree_forget K A))
    : FnOk P w K mg base (L2.CX P w) 8 f fd ["self", "limit"] (sp_Session_forget K A) := by
  have sc := sc_Session_forget
  refine F.okX sc (fun vs H Q E h => sp_Session_forget_len h) (fun cdv AA outer s H vs Q E hr h => ?_)
  have tk0 : Takes (cxOf (L2.CX P w) P w K mg base ["self", "limit"] "Session.forget" (defScope s_Session_forget) f cdv AA outer s H E) (fun cls d _ H => E cls d H) := takes_of rfl rfl rfl rfl
  refine ⟨_, (pss_cons (ps_expr (pe_m0 m_Session_refuse_open_group (pv 0) T.clE hr (by decide) (passX tk0)))
      (pss_cons (ps_if (pt_cmpR op_eq (pv 1) pe_int (nomark _)) (pss_one (ps_rz r_OutOfRange rfl hr (by decide) tk0)) pss_nil)
      (pss_one (ps_ret (pe_f m_counted hr (by decide) pass0 (pa_cons (pe_m m_Tree_forget (pe_fld (pv 0) rfl) T.clT hr (by decide) pass0 (pa_cons (pv 1) pa_nil)) pa_nil)))))), ?_⟩
  obtain ⟨a, ρ, s, n, rfl, sa, k⟩ := h
  have sa0 := sa
  obtain ⟨own, hS, w⟩ := sa
  have hS0 := hS
  obtain ⟨r, dx, ta, d, L, gv, e, hA, hg⟩ := hS
  have hA0 := hA
  obtain ⟨dt, hT⟩ := hA.obj
  unfold doForget at k
  refine ⟨_, rfl, a, dx, _, rfl, e, se_no (by decide +kernel), ⟨a, ρ, s, rfl, hS0, fun hn => ?_, fun hs => ret_open k hs⟩⟩
  have k := ret_shut k hn
  refine ⟨_, rfl, rfl, _, rfl, ?_⟩
  have d0 : decide (vn n = V.int 0) = decide (n = 0) := dec_vn (b := 0)
  rw [d0]
  by_cases c0 : n = 0
  · rw [if_pos c0] at k
    exact if_true_of (decide_eq_true c0) k
  rw [if_neg c0] at k
  refine if_false_of (decide_eq_false c0) ?_
  refine ⟨_, rfl, a, _, dx, _, _, rfl, e, T.clE, T.nE_tree, se_tree, ta, dt, _, rfl, hT, tr_no (by decide +kernel), _, rfl, ⟨ta, d, ρ, s.tree, L, n, rfl, ⟨own, hA, w.tree⟩, fun H2 ρ2 p new hp ep rp => ?_⟩⟩
  obtain ⟨o2, ⟨d2, L2', hA2⟩, f2⟩ := new
  have hS2 := se_with f2 r e hg hA2
  refine ⟨p, _, rfl, ep, ?_, resl o2 hS2 f2.all k⟩
  have := forget_len w.tree n
  have := w.tree.count
  omega
end UB
namespace UB
open PySem PySem.Spec PyProof.Rows L2
open Ue03 (Change)
open Mir
/-! ### Session.text_of -/
abbrev s_Session_text_of : Stmt := inClass (top 25) 26
theorem sc_Session_text_of : FnScope ["self", "number"] ["self", "number"] (defScope s_Session_text_of) := ⟨rfl, rfl, rfl, by decide +kernel, rfl, by decide +kernel, by decide +kernel⟩
theorem ok_Session_text_of {P : Program} {w : World} {K : PySem.W.Frag} {mg : Str → Option Value} {base : Heap} {A : Ad} {f : Addr} {fd : FuncData} (F : Fun K "text_of" "Session.text_of" s_Session_text_of f fd) (T : Txt K mg A)
    (m_counted : DefX P w K mg base CX0 1 "counted" ["numbers"] (sp_counted K A))
    (m_Tree_find_state : MetX P w K mg base (L2.CX P w) 4 A.cs.T "find_state" ["self", "number"] (sp_Tree_find_state K A))
    : FnOk P w K mg base (L2.CX P w) 8 f fd ["self", "number"] (sp_Session_text_of K A) := by
  have sc := sc_Session_text_of
  refine F.okX sc (fun vs H Q E h => sp_Session_text_of_len h) (fun cdv AA outer s H vs Q E hr h => ?_)
  have tk0 : Takes (cxOf (L2.CX P w) P w K mg base ["self", "number"] "Session.text_of" (defScope s_Session_text_of) f cdv AA outer s H E) (fun cls d _ H => E cls d H) := takes_of rfl rfl rfl rfl
  refine ⟨_, (pss_one (ps_ret (pe_f m_counted hr (by decide) pass0 (pa_cons (pe_fld (pe_m m_Tree_find_state (pe_fld (pv 0) rfl) T.clT hr (by decide) (passX tk0) (pa_cons (pv 1) pa_nil)) rfl) pa_nil)))), ?_⟩
  obtain ⟨a, ρ, s, n, rfl, sa, k⟩ := h
  have sa0 := sa
  obtain ⟨own, hS, w⟩ := sa
  have hS0 := hS
  obtain ⟨r, dx, ta, d, L, gv, e, hA, hg⟩ := hS
  have hA0 := hA
  obtain ⟨dt, hT⟩ := hA.obj
  unfold doTextOf at k
  refine ⟨_, rfl, a, _, dx, _, _, rfl, e, T.clE, T.nE_tree, se_tree, ta, dt, _, rfl, hT, tr_no (by decide +kernel), _, rfl, ⟨ta, d, ρ, s.tree, L, n, rfl, hA, fun x sb q mb => ?_, fun q => ?_⟩⟩
  rotate_left
  · rw [q] at k
    exact k
  rw [q] at k
  obtain ⟨_, ds, cb, tb, hb, as, eb, _, lb, _⟩ := hA.at_ _ mb
  have := w.tree.short _ (find_mem q)
  exact ⟨sb, _, ds, _, _, rfl, eb, T.clS, T.nS_text, st_text, ⟨tb, x.text, rfl, lb.2, by omega, resl own hS0 Fr.refl k⟩⟩
end UB
namespace UB
open PySem PySem.Spec PyProof.Rows L2
open Ue03 (Change)
open Mir
/-! ### read_call -/
abbrev s_read_call : Stmt := top 47
theorem sc_read_call : FnScope ["calls", "place", "call", "end", "plain", "row", "row_start"] ["calls", "place"] (defScope s_read_call) := ⟨rfl, rfl, rfl, by decide +kernel, rfl, by decide +kernel, by decide +kernel⟩
theorem ok_read_call {P : Program} {w : World} {K : PySem.W.Frag} {mg : Str → Option Value} {base : Heap} {A : Ad} {f : Addr} {fd : FuncData} (F : Fun K "read_call" "read_call" s_read_call f fd) (T : Txt K mg A)
    : FnOk P w K mg base CX0 1 f fd ["calls", "place"] (sp_read_call K A) := by
  have sc := sc_read_call
  refine F.ok sc (fun vs H Q E h => sp_read_call_len h) (fun cdv AA outer s H vs Q E hr h => ?_)
  refine ⟨_, (pss_cons (ps_set (i := 2) sc.nd rfl (Or.inl rfl) (pe_ix ix_list (pv 0) (pv 1) (fun _ _ => rfl)))
      (pss_cons (ps_set (i := 3) sc.nd rfl (Or.inl rfl) (pe_op op_add (pe_op op_add (pv 1) pe_int) (pe_ix ix_tup (pe_glob (v := V.ref A.plains) rfl T.g_plains rfl) (pv 2) (fun _ _ => rfl))))
      (pss_cons (ps_set (i := 4) sc.nd rfl (Or.inl rfl) (pe_slice sl_list (pv 0) (po_some (pe_op op_add (pv 1) pe_int)) (po_some (pv 3))))
      (pss_cons (ps_set (i := 5) sc.nd rfl (Or.inl rfl) (pe_lst pa_nil))
      (pss_cons (ps_if (PW.pt (pw_or (pt_cmpR op_eq (pv 2) (C8.pe_gc rfl T.c_START) (nomark _)) (pw_or1 (pt_cmpR op_eq (pv 2) (C8.pe_gc rfl T.c_CHANGE) (nomark _))))) (pss_cons (ps_set (i := 6) sc.nd rfl (Or.inl rfl) (pe_op op_add (pv 3) pe_int))
        (pss_cons (ps_set (i := 3) sc.nd rfl (Or.inl rfl) (pe_op op_add (pv 6) (pe_ix ix_list (pv 0) (pv 3) (fun _ _ => rfl))))
        (pss_one (ps_set (i := 5) sc.nd rfl (Or.inl rfl) (pe_slice sl_list (pv 0) (po_some (pv 6)) (po_some (pv 3))))))) pss_nil)
      (pss_one (ps_ret (pe_tup (pa_cons (pv 2) (pa_cons (pv 4) (pa_cons (pv 5) (pa_cons (pv 3) pa_nil)))))))))))), ?_⟩
  obtain ⟨a, l, i, rfl, hl, hi, hc, hlen, k⟩ := h
  have at0 : l[i]? = some ((l.drop i).headD 0) := by
    rw [List.headD_eq_head?_getD, List.head?_drop, List.getElem?_eq_getElem hi]
    rfl
  have pk : Mir.plains[(l.drop i).headD 0]? = some (plainOf ((l.drop i).headD 0)) := by
    have : (l.drop i).headD 0 < Mir.plains.length := by show _ < 20; omega
    unfold plainOf
    rw [List.getD_eq_getElem?_getD, List.getElem?_eq_getElem this]
    rfl
  have hplain : readPlain (l.drop i) = (l.drop (i + 1)).take (plainOf ((l.drop i).headD 0)) := by
    unfold readPlain
    rw [List.drop_drop]
  have hrow : readRow (l.drop i) = if hasRow ((l.drop i).headD 0) = true then (l.drop (i + (plainOf ((l.drop i).headD 0) + 2))).take ((l.drop i).getD (plainOf ((l.drop i).headD 0) + 1) 0) else [] := by
    unfold readRow
    rw [List.drop_drop]
  have hln : readLen (l.drop i) = if hasRow ((l.drop i).headD 0) = true then plainOf ((l.drop i).headD 0) + 2 + (l.drop i).getD (plainOf ((l.drop i).headD 0) + 1) 0 else plainOf ((l.drop i).headD 0) + 1 := rfl
  have hdrop : (l.drop i).length = l.length - i := List.length_drop
  generalize (l.drop i).headD 0 = c at *
  generalize hmm : (l.drop i).getD (plainOf c + 1) 0 = m at *
  refine ⟨_, rfl, _, rfl, a, _, _, _, rfl, rfl, hl, atI_nat (nl_at at0), ?_⟩
  refine ⟨_, rfl, _, _, rfl, rfl, _, rfl, A.plains, _, _, _, rfl, rfl, T.plains H, atI_nat (nl_at pk), _, _, rfl, rfl, ?_⟩
  refine ⟨_, rfl, _, rfl, _, _, rfl, rfl, _, rfl, _, rfl, _, rfl, a, _, rfl, hl, fun u hu => ?_⟩
  have ecut : cutV (nl l) (some ((i : Int) + 1)) (some ((i : Int) + 1 + (plainOf c : Int))) = nl (readPlain (l.drop i)) := by
    have := cut_mid l (i + 1) (i + 1 + plainOf c)
    rw [Nat.add_sub_cancel_left] at this
    rw [hplain, ← this]
    rfl
  have s1 : Same H (upd H u (.lst (cutV (nl l) (some ((i : Int) + 1)) (some ((i : Int) + 1 + (plainOf c : Int)))))) := same_new hu
  have eu : upd H u (.lst (cutV (nl l) (some ((i : Int) + 1)) (some ((i : Int) + 1 + (plainOf c : Int))))) u = some (.lst (nl (readPlain (l.drop i)))) := by
    rw [upd_same, ecut]
  refine ⟨(by show 0 ≤ sizeLine; decide), fun w0 hw0 => ?_⟩
  have s2 := s1.trans (same_new (o := .lst []) hw0)
  have eu2 := same_new (o := .lst []) hw0 _ _ eu
  have huw0 : u ≠ w0 := ne_of_none eu hw0
  -- with a row
  have withRow : hasRow c = true → (tSeq (tSeq (tAsg (tOp (rI0 fun i j => .int (i + j)) (tVar 3) (tC (.int 1))) (gName 6)) (tSeq (tAsg (tOp (rI0 fun i j => .int (i + j)) (tVar 6) (tOp (rIxL K) (tVar 0) (tVar 3))) (gName 3)) (tAsg (tSl (rSlL K) (tVar 0) (tPart (tVar 6)) (tPart (tVar 3))) (gName 5))))
      (tRet (tTup (tCons (tVar 2) (tCons (tVar 4) (tCons (tVar 5) (tCons (tVar 3) tNil))))))) { nx := fun _ H' => Q .non H', rt := Q } [some (.ref a), some (vn i), some (vn c), some (V.int ((i : Int) + 1 + (plainOf c : Int))), some (.ref u), some (.ref w0), none]
      (upd (upd H u (.lst (cutV (nl l) (some ((i : Int) + 1)) (some ((i : Int) + 1 + (plainOf c : Int)))))) w0 (.lst [])) := by
    intro hr1
    rw [if_pos hr1] at hrow hln
    have at1 : l[i + 1 + plainOf c]? = some m := by
      have h1 : i + 1 + plainOf c < l.length := by omega
      rw [← hmm, List.getD_eq_getElem?_getD, List.getElem?_drop, show i + (plainOf c + 1) = i + 1 + plainOf c by omega, List.getElem?_eq_getElem h1]
      rfl
    refine ⟨_, rfl, _, _, rfl, rfl, ?_⟩
    refine ⟨_, rfl, _, rfl, _, rfl, a, _, _, _, rfl, rfl, s2.seq hl, (show atI _ ((i + 1 + plainOf c : Nat) : Int) = _ from atI_nat (nl_at at1)), _, _, rfl, rfl, ?_⟩
    refine ⟨_, rfl, _, rfl, _, rfl, _, rfl, _, rfl, a, _, rfl, s2.seq hl, fun wd hw => ?_⟩
    have ecut2 : cutV (nl l) (some ((i : Int) + 1 + (plainOf c : Int) + 1)) (some ((i : Int) + 1 + (plainOf c : Int) + 1 + (m : Int))) = nl (readRow (l.drop i)) := by
      have := cut_mid l (i + (plainOf c + 2)) (i + (plainOf c + 2) + m)
      rw [Nat.add_sub_cancel_left] at this
      rw [hrow, ← this]
      congr 2 <;> omega
    have s3 := s2.trans (same_new (o := .lst (cutV (nl l) (some ((i : Int) + 1 + (plainOf c : Int) + 1)) (some ((i : Int) + 1 + (plainOf c : Int) + 1 + (m : Int))))) hw)
    refine ⟨_, rfl, _, rfl, _, rfl, _, rfl, (by show 4 ≤ sizeLine; decide), fun p hp => ?_⟩
    have s4 := s3.trans (same_new (o := .tup [vn c, .ref u, .ref wd, V.int ((i : Int) + 1 + (plainOf c : Int) + 1 + (m : Int))]) hp)
    refine k _ p u wd s4 hu (s2.free hw) (ne_of_none eu2 hw) ?_ ?_ ?_
    · rw [upd_same, hln]
      have : V.int ((i : Int) + 1 + (plainOf c : Int) + 1 + (m : Int)) = vn (i + (plainOf c + 2 + m)) := by
        unfold vn
        congr 1
        omega
      exact congrArg (fun v => some (HO.tup [vn c, V.ref u, V.ref wd, v])) this
    · exact same_new hp _ _ (same_new hw _ _ eu2)
    · exact same_new hp _ _ (by rw [upd_same, ecut2])
  have plain0 : hasRow c = false → (tRet (tTup (tCons (tVar 2) (tCons (tVar 4) (tCons (tVar 5) (tCons (tVar 3) tNil)))))) { nx := fun _ H' => Q .non H', rt := Q } [some (.ref a), some (vn i), some (vn c), some (V.int ((i : Int) + 1 + (plainOf c : Int))), some (.ref u), some (.ref w0), none]
      (upd (upd H u (.lst (cutV (nl l) (some ((i : Int) + 1)) (some ((i : Int) + 1 + (plainOf c : Int)))))) w0 (.lst [])) := by
    intro hr1
    rw [if_neg (by rw [hr1]; simp)] at hrow hln
    refine ⟨_, rfl, _, rfl, _, rfl, _, rfl, (by show 4 ≤ sizeLine; decide), fun p hp => ?_⟩
    have s4 := s2.trans (same_new (o := .tup [vn c, .ref u, .ref w0, V.int ((i : Int) + 1 + (plainOf c : Int))]) hp)
    refine k _ p u w0 s4 hu (s1.free hw0) huw0 ?_ ?_ ?_
    · rw [upd_same, hln]
      have : V.int ((i : Int) + 1 + (plainOf c : Int)) = vn (i + (plainOf c + 1)) := by
        unfold vn
        congr 1
        omega
      exact congrArg (fun v => some (HO.tup [vn c, V.ref u, V.ref w0, v])) this
    · exact same_new hp _ _ eu2
    · rw [hrow]
      exact same_new hp _ _ upd_same
  have d0 : decide (vn c = V.int 0) = decide (c = 0) := dec_vn (b := 0)
  have d2 : decide (vn c = V.int 2) = decide (c = 2) := dec_vn (b := 2)
  refine ⟨_, rfl, rfl, _, rfl, ?_⟩
  rw [d0]
  by_cases c0 : c = 0
  · subst c0
    exact if_true_of rfl (if_true_of rfl (withRow rfl))
  refine if_false_of (decide_eq_false c0) ?_
  refine ⟨_, rfl, rfl, _, rfl, ?_⟩
  rw [d2]
  by_cases c2 : c = 2
  · subst c2
    exact if_true_of rfl (withRow rfl)
  · refine if_false_of (decide_eq_false c2) (plain0 ?_)
    unfold hasRow
    rw [beq_false_of_ne c0, beq_false_of_ne c2]
    rfl
end UB
namespace UB
open PySem PySem.Spec PyProof.Rows L2
open Ue03 (Change)
open Mir
/-! ### go -/
abbrev s_go : Stmt := top 48
theorem sc_go : FnScope ["session", "call", "plain"] ["session", "call", "plain"] (defScope s_go) := ⟨rfl, rfl, rfl, by decide +kernel, rfl, by decide +kernel, by decide +kernel⟩
theorem ok_go {P : Program} {w : World} {K : PySem.W.Frag} {mg : Str → Option Value} {base : Heap} {A : Ad} {f : Addr} {fd : FuncData} (F : Fun K "go" "go" s_go f fd) (T : Txt K mg A)
    (m_Session_undo : MetX P w K mg base (L2.CX P w) 8 A.cs.E "undo" ["self"] (sp_Session_undo K A))
    (m_Session_redo : MetX P w K mg base (L2.CX P w) 8 A.cs.E "redo" ["self"] (sp_Session_redo K A))
    (m_Session_go_to : MetX P w K mg base (L2.CX P w) 8 A.cs.E "go_to" ["self", "number"] (sp_Session_go_to K A))
    (m_Session_earlier : MetX P w K mg base (L2.CX P w) 8 A.cs.E "earlier" ["self", "n"] (sp_Session_earlier K A))
    (m_Session_later : MetX P w K mg base (L2.CX P w) 8 A.cs.E "later" ["self", "n"] (sp_Session_later K A))
    (m_Session_ago : MetX P w K mg base (L2.CX P w) 8 A.cs.E "ago" ["self", "ticks"] (sp_Session_ago K A))
    : FnOk P w K mg base (L2.CX P w) 9 f fd ["session", "call", "plain"] (sp_go K A) := by
  have sc := sc_go
  refine F.okX sc (fun vs H Q E h => sp_go_len h) (fun cdv AA outer s H vs Q E hr h => ?_)
  have tk0 : Takes (cxOf (L2.CX P w) P w K mg base ["session", "call", "plain"] "go" (defScope s_go) f cdv AA outer s H E) (fun cls d _ H => E cls d H) := takes_of rfl rfl rfl rfl
  refine ⟨_, (pss_cons (ps_if (pt_cmpR op_eq (pv 1) (C8.pe_gc rfl T.c_UNDO) (nomark _)) (pss_one (ps_ret (pe_m0 m_Session_undo (pv 0) T.clE hr (by decide) (passX tk0)))) pss_nil)
      (pss_cons (ps_if (pt_cmpR op_eq (pv 1) (C8.pe_gc rfl T.c_REDO) (nomark _)) (pss_one (ps_ret (pe_m0 m_Session_redo (pv 0) T.clE hr (by decide) (passX tk0)))) pss_nil)
      (pss_cons (ps_if (pt_cmpR op_eq (pv 1) (C8.pe_gc rfl T.c_GO_TO) (nomark _)) (pss_one (ps_ret (pe_m m_Session_go_to (pv 0) T.clE hr (by decide) (passX tk0) (pa_cons (pe_ix ix_list (pv 2) pe_int (fun _ _ => rfl)) pa_nil)))) pss_nil)
      (pss_cons (ps_if (pt_cmpR op_eq (pv 1) (C8.pe_gc rfl T.c_EARLIER) (nomark _)) (pss_one (ps_ret (pe_m m_Session_earlier (pv 0) T.clE hr (by decide) (passX tk0) (pa_cons (pe_ix ix_list (pv 2) pe_int (fun _ _ => rfl)) pa_nil)))) pss_nil)
      (pss_cons (ps_if (pt_cmpR op_eq (pv 1) (C8.pe_gc rfl T.c_LATER) (nomark _)) (pss_one (ps_ret (pe_m m_Session_later (pv 0) T.clE hr (by decide) (passX tk0) (pa_cons (pe_ix ix_list (pv 2) pe_int (fun _ _ => rfl)) pa_nil)))) pss_nil)
      (pss_one (ps_ret (pe_m m_Session_ago (pv 0) T.clE hr (by decide) (passX tk0) (pa_cons (pe_ix ix_list (pv 2) pe_int (fun _ _ => rfl)) pa_nil))))))))), ?_⟩
  obtain ⟨a, pa, ρ, s, c, p, rfl, sa, hc, hp, hpl, k⟩ := h
  obtain ⟨own, hS, w⟩ := sa
  have sa0 : SesAt A ρ H s a := ⟨own, hS, w⟩
  obtain ⟨r, dx, ta, d, L, gv, e, _⟩ := hS
  have one : plainOf c = 1 → ∃ x, p = [x] := fun h1 => by
    rw [h1] at hpl
    match p, hpl with
    | [x], _ => exact ⟨x, rfl⟩
  have cases6 : c = 5 ∨ c = 6 ∨ c = 7 ∨ c = 8 ∨ c = 9 ∨ c = 10 := by omega
  rcases cases6 with rfl | rfl | rfl | rfl | rfl | rfl
  · refine ⟨_, rfl, rfl, _, rfl, if_true_of rfl ?_⟩
    exact ⟨_, rfl, a, dx, _, rfl, e, se_no (by decide +kernel), ⟨a, ρ, s, rfl, sa0, k⟩⟩
  · refine ⟨_, rfl, rfl, _, rfl, if_false_of rfl ?_⟩
    refine ⟨_, rfl, rfl, _, rfl, if_true_of rfl ?_⟩
    exact ⟨_, rfl, a, dx, _, rfl, e, se_no (by decide +kernel), ⟨a, ρ, s, rfl, sa0, k⟩⟩
  · obtain ⟨x, rfl⟩ := one rfl
    refine ⟨_, rfl, rfl, _, rfl, if_false_of rfl ⟨_, rfl, rfl, _, rfl, if_false_of rfl ⟨_, rfl, rfl, _, rfl, if_true_of rfl ?_⟩⟩⟩
    exact ⟨_, rfl, a, dx, _, rfl, e, se_no (by decide +kernel), _, rfl, pa, _, 0, _, rfl, rfl, SqL.of hp, rfl, ⟨a, ρ, s, x, rfl, sa0, k⟩⟩
  · obtain ⟨x, rfl⟩ := one rfl
    refine ⟨_, rfl, rfl, _, rfl, if_false_of rfl ⟨_, rfl, rfl, _, rfl, if_false_of rfl ⟨_, rfl, rfl, _, rfl, if_false_of rfl ⟨_, rfl, rfl, _, rfl, if_true_of rfl ?_⟩⟩⟩⟩
    exact ⟨_, rfl, a, dx, _, rfl, e, se_no (by decide +kernel), _, rfl, pa, _, 0, _, rfl, rfl, SqL.of hp, rfl, ⟨a, ρ, s, x, rfl, sa0, k⟩⟩
  · obtain ⟨x, rfl⟩ := one rfl
    refine ⟨_, rfl, rfl, _, rfl, if_false_of rfl ⟨_, rfl, rfl, _, rfl, if_false_of rfl ⟨_, rfl, rfl, _, rfl, if_false_of rfl ⟨_, rfl, rfl, _, rfl, if_false_of rfl ⟨_, rfl, rfl, _, rfl, if_true_of rfl ?_⟩⟩⟩⟩⟩
    exact ⟨_, rfl, a, dx, _, rfl, e, se_no (by decide +kernel), _, rfl, pa, _, 0, _, rfl, rfl, SqL.of hp, rfl, ⟨a, ρ, s, x, rfl, sa0, k⟩⟩
  · obtain ⟨x, rfl⟩ := one rfl
    refine ⟨_, rfl, rfl, _, rfl, if_false_of rfl ⟨_, rfl, rfl, _, rfl, if_false_of rfl ⟨_, rfl, rfl, _, rfl, if_false_of rfl ⟨_, rfl, rfl, _, rfl, if_false_of rfl ⟨_, rfl, rfl, _, rfl, if_false_of rfl ?_⟩⟩⟩⟩⟩
    exact ⟨_, rfl, a, dx, _, rfl, e, se_no (by decide +kernel), _, rfl, pa, _, 0, _, rfl, rfl, SqL.of hp, rfl, ⟨a, ρ, s, x, rfl, sa0, k⟩⟩
end UB
namespace UB
open PySem PySem.Spec PyProof.Rows L2
open Ue03 (Change)
open Mir
/-! ### tell -/
abbrev s_tell : Stmt := top 49
theorem sc_tell : FnScope ["session", "call", "plain"] ["session", "call", "plain"] (defScope s_tell) := ⟨rfl, rfl, rfl, by decide +kernel, rfl, by decide +kernel, by decide +kernel⟩
theorem ok_tell {P : Program} {w : World} {K : PySem.W.Frag} {mg : Str → Option Value} {base : Heap} {A : Ad} {f : Addr} {fd : FuncData} (F : Fun K "tell" "tell" s_tell f fd) (T : Txt K mg A)
    (m_Session_get_text : MetX P w K mg base CX0 8 A.cs.E "get_text" ["self"] (sp_Session_get_text K A))
    (m_Session_state_info : MetX P w K mg base (L2.CX P w) 8 A.cs.E "state_info" ["self", "number"] (sp_Session_state_info K A))
    (m_Session_leaves : MetX P w K mg base CX0 8 A.cs.E "leaves" ["self"] (sp_Session_leaves K A))
    (m_Session_path : MetX P w K mg base (L2.CX P w) 8 A.cs.E "path" ["self", "from_state", "to_state"] (sp_Session_path K A))
    (m_Session_origins : MetX P w K mg base (L2.CX P w) 8 A.cs.E "origins" ["self"] (sp_Session_origins K A))
    (m_Session_text_of : MetX P w K mg base (L2.CX P w) 8 A.cs.E "text_of" ["self", "number"] (sp_Session_text_of K A))
    : FnOk P w K mg base (L2.CX P w) 9 f fd ["session", "call", "plain"] (sp_tell K A) := by
  have sc := sc_tell
  refine F.okX sc (fun vs H Q E h => sp_tell_len h) (fun cdv AA outer s H vs Q E hr h => ?_)
  have tk0 : Takes (cxOf (L2.CX P w) P w K mg base ["session", "call", "plain"] "tell" (defScope s_tell) f cdv AA outer s H E) (fun cls d _ H => E cls d H) := takes_of rfl rfl rfl rfl
  refine ⟨_, (pss_cons (ps_if (pt_cmpR op_eq (pv 1) (C8.pe_gc rfl T.c_GET_TEXT) (nomark _)) (pss_one (ps_ret (pe_m0 m_Session_get_text (pv 0) T.clE hr (by decide) pass0))) pss_nil)
      (pss_cons (ps_if (pt_cmpR op_eq (pv 1) (C8.pe_gc rfl T.c_STATE_INFO) (nomark _)) (pss_one (ps_ret (pe_m m_Session_state_info (pv 0) T.clE hr (by decide) (passX tk0) (pa_cons (pe_ix ix_list (pv 2) pe_int (fun _ _ => rfl)) pa_nil)))) pss_nil)
      (pss_cons (ps_if (pt_cmpR op_eq (pv 1) (C8.pe_gc rfl T.c_LEAVES) (nomark _)) (pss_one (ps_ret (pe_m0 m_Session_leaves (pv 0) T.clE hr (by decide) pass0))) pss_nil)
      (pss_cons (ps_if (pt_cmpR op_eq (pv 1) (C8.pe_gc rfl T.c_PATH) (nomark _)) (pss_one (ps_ret (pe_m m_Session_path (pv 0) T.clE hr (by decide) (passX tk0) (pa_cons (pe_ix ix_list (pv 2) pe_int (fun _ _ => rfl)) (pa_cons (pe_ix ix_list (pv 2) pe_int (fun _ _ => rfl)) pa_nil))))) pss_nil)
      (pss_cons (ps_if (pt_cmpR op_eq (pv 1) (C8.pe_gc rfl T.c_ORIGINS) (nomark _)) (pss_one (ps_ret (pe_m0 m_Session_origins (pv 0) T.clE hr (by decide) (passX tk0)))) pss_nil)
      (pss_one (ps_ret (pe_m m_Session_text_of (pv 0) T.clE hr (by decide) (passX tk0) (pa_cons (pe_ix ix_list (pv 2) pe_int (fun _ _ => rfl)) pa_nil))))))))), ?_⟩
  obtain ⟨a, pa, ρ, s, c, p, rfl, sa, hc, hp, hpl, k⟩ := h
  obtain ⟨own, hS, w⟩ := sa
  have sa0 : SesAt A ρ H s a := ⟨own, hS, w⟩
  obtain ⟨r, dx, ta, d, L, gv, e, _⟩ := hS
  have one : plainOf c = 1 → ∃ x, p = [x] := fun h1 => by
    rw [h1] at hpl
    match p, hpl with
    | [x], _ => exact ⟨x, rfl⟩
  have two : plainOf c = 2 → ∃ x y, p = [x, y] := fun h1 => by
    rw [h1] at hpl
    match p, hpl with
    | [x, y], _ => exact ⟨x, y, rfl⟩
  have cases6 : c = 11 ∨ c = 12 ∨ c = 13 ∨ c = 14 ∨ c = 15 ∨ c = 19 := by omega
  rcases cases6 with rfl | rfl | rfl | rfl | rfl | rfl
  · refine ⟨_, rfl, rfl, _, rfl, if_true_of rfl ?_⟩
    exact ⟨_, rfl, a, dx, _, rfl, e, se_no (by decide +kernel), ⟨a, ρ, s, rfl, sa0, k⟩⟩
  · obtain ⟨x, rfl⟩ := one rfl
    refine ⟨_, rfl, rfl, _, rfl, if_false_of rfl ⟨_, rfl, rfl, _, rfl, if_true_of rfl ?_⟩⟩
    exact ⟨_, rfl, a, dx, _, rfl, e, se_no (by decide +kernel), _, rfl, pa, _, 0, _, rfl, rfl, SqL.of hp, rfl, ⟨a, ρ, s, x, rfl, sa0, k⟩⟩
  · refine ⟨_, rfl, rfl, _, rfl, if_false_of rfl ⟨_, rfl, rfl, _, rfl, if_false_of rfl ⟨_, rfl, rfl, _, rfl, if_true_of rfl ?_⟩⟩⟩
    exact ⟨_, rfl, a, dx, _, rfl, e, se_no (by decide +kernel), ⟨a, ρ, s, rfl, sa0, k⟩⟩
  · obtain ⟨x, y, rfl⟩ := two rfl
    refine ⟨_, rfl, rfl, _, rfl, if_false_of rfl ⟨_, rfl, rfl, _, rfl, if_false_of rfl ⟨_, rfl, rfl, _, rfl, if_false_of rfl ⟨_, rfl, rfl, _, rfl, if_true_of rfl ?_⟩⟩⟩⟩
    exact ⟨_, rfl, a, dx, _, rfl, e, se_no (by decide +kernel), _, rfl, pa, _, 0, _, rfl, rfl, SqL.of hp, rfl, _, rfl, pa, _, 1, _, rfl, rfl, SqL.of hp, rfl, ⟨a, ρ, s, x, y, rfl, sa0, k⟩⟩
  · refine ⟨_, rfl, rfl, _, rfl, if_false_of rfl ⟨_, rfl, rfl, _, rfl, if_false_of rfl ⟨_, rfl, rfl, _, rfl, if_false_of rfl ⟨_, rfl, rfl, _, rfl, if_false_of rfl ⟨_, rfl, rfl, _, rfl, if_true_of rfl ?_⟩⟩⟩⟩⟩
    exact ⟨_, rfl, a, dx, _, rfl, e, se_no (by decide +kernel), ⟨a, ρ, s, rfl, sa0, k⟩⟩
  · obtain ⟨x, rfl⟩ := one rfl
    refine ⟨_, rfl, rfl, _, rfl, if_false_of rfl ⟨_, rfl, rfl, _, rfl, if_false_of rfl ⟨_, rfl, rfl, _, rfl, if_false_of rfl ⟨_, rfl, rfl, _, rfl, if_false_of rfl ⟨_, rfl, rfl, _, rfl, if_false_of rfl ?_⟩⟩⟩⟩⟩
    exact ⟨_, rfl, a, dx, _, rfl, e, se_no (by decide +kernel), _, rfl, pa, _, 0, _, rfl, rfl, SqL.of hp, rfl, ⟨a, ρ, s, x, rfl, sa0, k⟩⟩
end UB
namespace UB
open PySem PySem.Spec PyProof.Rows L2
open Ue03 (Change)
open Mir
/-! ### carry_out -/
abbrev s_carry_out : Stmt := top 50
theorem sc_carry_out : FnScope ["session", "call", "plain", "row"] ["session", "call", "plain", "row"] (defScope s_carry_out) := ⟨rfl, rfl, rfl, by decide +kernel, rfl, by decide +kernel, by decide +kernel⟩
theorem ok_carry_out {P : Program} {w : World} {K : PySem.W.Frag} {mg : Str → Option Value} {base : Heap} {A : Ad} {f : Addr} {fd : FuncData} (F : Fun K "carry_out" "carry_out" s_carry_out f fd) (T : Txt K mg A)
    (m_Session_start : MetX P w K mg base (L2.CX P w) 8 A.cs.E "start" ["self", "text"] (sp_Session_start K A))
    (m_Session_wait : MetX P w K mg base (L2.CX P w) 8 A.cs.E "wait" ["self", "ticks"] (sp_Session_wait K A))
    (m_Session_change : MetX P w K mg base (L2.CX P w) 8 A.cs.E "change" ["self", "position", "removed", "inserted"] (sp_Session_change K A))
    (m_Session_open_group : MetX P w K mg base (L2.CX P w) 8 A.cs.E "open_group" ["self"] (sp_Session_open_group K A))
    (m_Session_close_group : MetX P w K mg base (L2.CX P w) 8 A.cs.E "close_group" ["self"] (sp_Session_close_group K A))
    (m_Session_revert : MetX P w K mg base (L2.CX P w) 8 A.cs.E "revert" ["self", "number"] (sp_Session_revert K A))
    (m_Session_set_kept : MetX P w K mg base (L2.CX P w) 8 A.cs.E "set_kept" ["self", "number", "kept"] (sp_Session_set_kept K A))
    (m_Session_forget : MetX P w K mg base (L2.CX P w) 8 A.cs.E "forget" ["self", "limit"] (sp_Session_forget K A))
    (m_go : DefX P w K mg base (L2.CX P w) 9 "go" ["session", "call", "plain"] (sp_go K A))
    (m_tell : DefX P w K mg base (L2.CX P w) 9 "tell" ["session", "call", "plain"] (sp_tell K A))
    : FnOk P w K mg base (L2.CX P w) 10 f fd ["session", "call", "plain", "row"] (sp_carry_out K A) := by
  have sc := sc_carry_out
  refine F.okX sc (fun vs H Q E h => sp_carry_out_len h) (fun cdv AA outer s H vs Q E hr h => ?_)
  have tk0 : Takes (cxOf (L2.CX P w) P w K mg base ["session", "call", "plain", "row"] "carry_out" (defScope s_carry_out) f cdv AA outer s H E) (fun cls d _ H => E cls d H) := takes_of rfl rfl rfl rfl
  refine ⟨_, (pss_cons (ps_if (pt_cmpR op_eq (pv 1) (C8.pe_gc rfl T.c_START) (nomark _)) (pss_one (ps_ret (pe_m m_Session_start (pv 0) T.clE hr (by decide) (passX tk0) (pa_cons (pv 3) pa_nil)))) pss_nil)
      (pss_cons (ps_if (pt_cmpR op_eq (pv 1) (C8.pe_gc rfl T.c_WAIT) (nomark _)) (pss_one (ps_ret (pe_m m_Session_wait (pv 0) T.clE hr (by decide) (passX tk0) (pa_cons (pe_ix ix_list (pv 2) pe_int (fun _ _ => rfl)) pa_nil)))) pss_nil)
      (pss_cons (ps_if (pt_cmpR op_eq (pv 1) (C8.pe_gc rfl T.c_CHANGE) (nomark _)) (pss_one (ps_ret (pe_m m_Session_change (pv 0) T.clE hr (by decide) (passX tk0) (pa_cons (pe_ix ix_list (pv 2) pe_int (fun _ _ => rfl)) (pa_cons (pe_ix ix_list (pv 2) pe_int (fun _ _ => rfl)) (pa_cons (pv 3) pa_nil)))))) pss_nil)
      (pss_cons (ps_if (pt_cmpR op_eq (pv 1) (C8.pe_gc rfl T.c_OPEN_GROUP) (nomark _)) (pss_one (ps_ret (pe_m0 m_Session_open_group (pv 0) T.clE hr (by decide) (passX tk0)))) pss_nil)
      (pss_cons (ps_if (pt_cmpR op_eq (pv 1) (C8.pe_gc rfl T.c_CLOSE_GROUP) (nomark _)) (pss_one (ps_ret (pe_m0 m_Session_close_group (pv 0) T.clE hr (by decide) (passX tk0)))) pss_nil)
      (pss_cons (ps_if (pt_cmpR op_eq (pv 1) (C8.pe_gc rfl T.c_REVERT) (nomark _)) (pss_one (ps_ret (pe_m m_Session_revert (pv 0) T.clE hr (by decide) (passX tk0) (pa_cons (pe_ix ix_list (pv 2) pe_int (fun _ _ => rfl)) pa_nil)))) pss_nil)
      (pss_cons (ps_if (pt_cmpR op_eq (pv 1) (C8.pe_gc rfl T.c_SET_KEPT) (nomark _)) (pss_one (ps_ret (pe_m m_Session_set_kept (pv 0) T.clE hr (by decide) (passX tk0) (pa_cons (pe_ix ix_list (pv 2) pe_int (fun _ _ => rfl)) (pa_cons (pe_ix ix_list (pv 2) pe_int (fun _ _ => rfl)) pa_nil))))) pss_nil)
      (pss_cons (ps_if (pt_cmpR op_eq (pv 1) (C8.pe_gc rfl T.c_FORGET) (nomark _)) (pss_one (ps_ret (pe_m m_Session_forget (pv 0) T.clE hr (by decide) (passX tk0) (pa_cons (pe_ix ix_list (pv 2) pe_int (fun _ _ => rfl)) pa_nil)))) pss_nil)
      (pss_cons (ps_if (pt_cmpR op_le (pv 1) (C8.pe_gc rfl T.c_AGO) (nomark _)) (pss_one (ps_ret (pe_f m_go hr (by decide) (passX tk0) (pa_cons (pv 0) (pa_cons (pv 1) (pa_cons (pv 2) pa_nil)))))) pss_nil)
      (pss_one (ps_ret (pe_f m_tell hr (by decide) (passX tk0) (pa_cons (pv 0) (pa_cons (pv 1) (pa_cons (pv 2) pa_nil))))))))))))))), ?_⟩
  obtain ⟨a, pa, ra, ρ, s, c, p, l, rfl, sa, _, hc, hp, hpl, hk1, hl, hl350, k⟩ := h
  obtain ⟨own, hS, w⟩ := sa
  have sa0 : SesAt A ρ H s a := ⟨own, hS, w⟩
  obtain ⟨r, dx, ta, d, L, gv, e, _⟩ := hS
  have one : plainOf c = 1 → ∃ x, p = [x] := fun h1 => by
    rw [h1] at hpl
    match p, hpl with
    | [x], _ => exact ⟨x, rfl⟩
  have two : plainOf c = 2 → ∃ x y, p = [x, y] := fun h1 => by
    rw [h1] at hpl
    match p, hpl with
    | [x, y], _ => exact ⟨x, y, rfl⟩
  have cases20 : c = 0 ∨ c = 1 ∨ c = 2 ∨ c = 3 ∨ c = 4 ∨ c = 16 ∨ c = 17 ∨ c = 18 ∨ (5 ≤ c ∧ c ≤ 10) ∨ (11 ≤ c ∧ c ≤ 19 ∧ c ≠ 16 ∧ c ≠ 17 ∧ c ≠ 18) := by omega
  rcases cases20 with rfl | rfl | rfl | rfl | rfl | rfl | rfl | rfl | hgo | htell
  · refine ⟨_, rfl, rfl, _, rfl, if_true_of rfl ?_⟩
    exact ⟨_, rfl, a, dx, _, rfl, e, se_no (by decide +kernel), _, rfl, ⟨a, ra, ρ, s, l, rfl, sa0, hl, k⟩⟩
  · obtain ⟨x, rfl⟩ := one rfl
    refine ⟨_, rfl, rfl, _, rfl, if_false_of rfl ⟨_, rfl, rfl, _, rfl, if_true_of rfl ?_⟩⟩
    exact ⟨_, rfl, a, dx, _, rfl, e, se_no (by decide +kernel), _, rfl, pa, _, 0, _, rfl, rfl, SqL.of hp, rfl, ⟨a, ρ, s, x, rfl, sa0, k⟩⟩
  · obtain ⟨x, y, rfl⟩ := two rfl
    refine ⟨_, rfl, rfl, _, rfl, if_false_of rfl ⟨_, rfl, rfl, _, rfl, if_false_of rfl ⟨_, rfl, rfl, _, rfl, if_true_of rfl ?_⟩⟩⟩
    exact ⟨_, rfl, a, dx, _, rfl, e, se_no (by decide +kernel), _, rfl, pa, _, 0, _, rfl, rfl, SqL.of hp, rfl, _, rfl, pa, _, 1, _, rfl, rfl, SqL.of hp, rfl, _, rfl, ⟨a, ra, ρ, s, x, y, l, rfl, sa0, hl, hl350, k⟩⟩
  · refine ⟨_, rfl, rfl, _, rfl, if_false_of rfl ⟨_, rfl, rfl, _, rfl, if_false_of rfl ⟨_, rfl, rfl, _, rfl, if_false_of rfl ⟨_, rfl, rfl, _, rfl, if_true_of rfl ?_⟩⟩⟩⟩
    exact ⟨_, rfl, a, dx, _, rfl, e, se_no (by decide +kernel), ⟨a, ρ, s, rfl, sa0, k⟩⟩
  · refine ⟨_, rfl, rfl, _, rfl, if_false_of rfl ⟨_, rfl, rfl, _, rfl, if_false_of rfl ⟨_, rfl, rfl, _, rfl, if_false_of rfl ⟨_, rfl, rfl, _, rfl, if_false_of rfl ⟨_, rfl, rfl, _, rfl, if_true_of rfl ?_⟩⟩⟩⟩⟩
    exact ⟨_, rfl, a, dx, _, rfl, e, se_no (by decide +kernel), ⟨a, ρ, s, rfl, sa0, k⟩⟩
  · obtain ⟨x, rfl⟩ := one rfl
    refine ⟨_, rfl, rfl, _, rfl, if_false_of rfl ⟨_, rfl, rfl, _, rfl, if_false_of rfl ⟨_, rfl, rfl, _, rfl, if_false_of rfl ⟨_, rfl, rfl, _, rfl, if_false_of rfl ⟨_, rfl, rfl, _, rfl, if_false_of rfl ⟨_, rfl, rfl, _, rfl, if_true_of rfl ?_⟩⟩⟩⟩⟩⟩
    exact ⟨_, rfl, a, dx, _, rfl, e, se_no (by decide +kernel), _, rfl, pa, _, 0, _, rfl, rfl, SqL.of hp, rfl, ⟨a, ρ, s, x, rfl, sa0, k⟩⟩
  · obtain ⟨x, y, rfl⟩ := two rfl
    refine ⟨_, rfl, rfl, _, rfl, if_false_of rfl ⟨_, rfl, rfl, _, rfl, if_false_of rfl ⟨_, rfl, rfl, _, rfl, if_false_of rfl ⟨_, rfl, rfl, _, rfl, if_false_of rfl ⟨_, rfl, rfl, _, rfl, if_false_of rfl ⟨_, rfl, rfl, _, rfl, if_false_of rfl ⟨_, rfl, rfl, _, rfl, if_true_of rfl ?_⟩⟩⟩⟩⟩⟩⟩
    exact ⟨_, rfl, a, dx, _, rfl, e, se_no (by decide +kernel), _, rfl, pa, _, 0, _, rfl, rfl, SqL.of hp, rfl, _, rfl, pa, _, 1, _, rfl, rfl, SqL.of hp, rfl, ⟨a, ρ, s, x, y, rfl, sa0, k⟩⟩
  · obtain ⟨x, rfl⟩ := one rfl
    refine ⟨_, rfl, rfl, _, rfl, if_false_of rfl ⟨_, rfl, rfl, _, rfl, if_false_of rfl ⟨_, rfl, rfl, _, rfl, if_false_of rfl ⟨_, rfl, rfl, _, rfl, if_false_of rfl ⟨_, rfl, rfl, _, rfl, if_false_of rfl ⟨_, rfl, rfl, _, rfl, if_false_of rfl ⟨_, rfl, rfl, _, rfl, if_false_of rfl ⟨_, rfl, rfl, _, rfl, if_true_of rfl ?_⟩⟩⟩⟩⟩⟩⟩⟩
    exact ⟨_, rfl, a, dx, _, rfl, e, se_no (by decide +kernel), _, rfl, pa, _, 0, _, rfl, rfl, SqL.of hp, rfl, ⟨a, ρ, s, x, rfl, sa0, k⟩⟩
  · have ne : ∀ m : Nat, c ≠ m → decide (vn c = V.int (m : Int)) = false := fun m hm => (dec_vn (a := c) (b := m)).trans (decide_eq_false hm)
    refine ⟨_, rfl, rfl, _, rfl, if_false_of (ne 0 (by omega)) ⟨_, rfl, rfl, _, rfl, if_false_of (ne 1 (by omega)) ⟨_, rfl, rfl, _, rfl, if_false_of (ne 2 (by omega)) ⟨_, rfl, rfl, _, rfl, if_false_of (ne 3 (by omega)) ⟨_, rfl, rfl, _, rfl, if_false_of (ne 4 (by omega)) ⟨_, rfl, rfl, _, rfl, if_false_of (ne 16 (by omega)) ⟨_, rfl, rfl, _, rfl, if_false_of (ne 17 (by omega)) ⟨_, rfl, rfl, _, rfl, if_false_of (ne 18 (by omega)) ?_⟩⟩⟩⟩⟩⟩⟩⟩
    refine ⟨_, rfl, _, _, rfl, rfl, _, rfl, if_true_of (decide_eq_true (by omega)) ?_⟩
    refine ⟨_, rfl, _, rfl, _, rfl, ⟨a, pa, ρ, s, c, p, rfl, sa0, hgo, hp, hpl, ?_⟩⟩
    have cases6 : c = 5 ∨ c = 6 ∨ c = 7 ∨ c = 8 ∨ c = 9 ∨ c = 10 := by omega
    rcases cases6 with rfl | rfl | rfl | rfl | rfl | rfl <;> exact k
  · have ne : ∀ m : Nat, c ≠ m → decide (vn c = V.int (m : Int)) = false := fun m hm => (dec_vn (a := c) (b := m)).trans (decide_eq_false hm)
    refine ⟨_, rfl, rfl, _, rfl, if_false_of (ne 0 (by omega)) ⟨_, rfl, rfl, _, rfl, if_false_of (ne 1 (by omega)) ⟨_, rfl, rfl, _, rfl, if_false_of (ne 2 (by omega)) ⟨_, rfl, rfl, _, rfl, if_false_of (ne 3 (by omega)) ⟨_, rfl, rfl, _, rfl, if_false_of (ne 4 (by omega)) ⟨_, rfl, rfl, _, rfl, if_false_of (ne 16 (by omega)) ⟨_, rfl, rfl, _, rfl, if_false_of (ne 17 (by omega)) ⟨_, rfl, rfl, _, rfl, if_false_of (ne 18 (by omega)) ?_⟩⟩⟩⟩⟩⟩⟩⟩
    refine ⟨_, rfl, _, _, rfl, rfl, _, rfl, if_false_of (decide_eq_false (by omega)) ?_⟩
    refine ⟨_, rfl, _, rfl, _, rfl, ⟨a, pa, ρ, s, c, p, rfl, sa0, htell, hp, hpl, ?_⟩⟩
    have cases6 : c = 11 ∨ c = 12 ∨ c = 13 ∨ c = 14 ∨ c = 15 ∨ c = 19 := by omega
    rcases cases6 with rfl | rfl | rfl | rfl | rfl | rfl <;> exact k
end UB
namespace UB
open PySem PySem.Spec PyProof.Rows L2
open Ue03 (Change)
open Mir
/-! ### answer_to -/
abbrev s_answer_to : Stmt := top 51
theorem sc_answer_to : FnScope ["session", "call", "plain", "row", "refusal"] ["session", "call", "plain", "row"] (defScope s_answer_to) := ⟨rfl, rfl, rfl, by decide +kernel, rfl, by decide +kernel, by decide +kernel⟩
theorem ok_answer_to {P : Program} {w : World} {K : PySem.W.Frag} {mg : Str → Option Value} {base : Heap} {A : Ad} {f : Addr} {fd : FuncData} (F : Fun K "answer_to" "answer_to" s_answer_to f fd) (T : Txt K mg A)
    (m_carry_out : DefX P w K mg base (L2.CX P w) 10 "carry_out" ["session", "call", "plain", "row"] (sp_carry_out K A))
    : FnOk P w K mg base CX0 11 f fd ["session", "call", "plain", "row"] (sp_answer_to K A) := by
  have sc := sc_answer_to
  obtain ⟨fC, fdC, gC, kC, FC, bC⟩ := m_carry_out.ex
  refine F.ok sc (fun vs H Q E h => sp_answer_to_len h) (fun cdv AA outer s H vs Q E hr h => ?_)
  refine ⟨_, (pss_one (ps_try_as (i := 4) (tb := fun W => tRet (tCallS (sp_carry_out K A) (WE W) (tCons (tVar 0) (tCons (tVar 1) (tCons (tVar 2) (tCons (tVar 3) tNil)))))) (ts := fun a cls d => tRet (tLst (tCons (tCode K A.CR a cls d (tVar 4)) tNil))) (Wout := fun _ _ _ _ => False) rfl rfl sc.nd rfl rfl ⟨rfl, by decide, Or.inl T.g_Refusal⟩ takes0
      (fun W pn xe tk _ => pss_one (ps_ret (by exact (pe_callS FC (hr.mono (by decide)) rfl gC kC bC (fun σ => passAt tk σ) (by exact (pa_cons (pv 0) (pa_cons (pv 1) (pa_cons (pv 2) (pa_cons (pv 3) pa_nil)))))))))
      (fun a oe cls d pn hz hf => pss_one (ps_ret (by exact (pe_lst (pa_cons (pe_code hz hf (pv 4)) pa_nil))))))), ?_⟩
  obtain ⟨a, pa, ra, ρ, s, c, p, l, rfl, sa, hc, hp, hpl, hk, hl, hl350, k⟩ := h
  refine ⟨_, rfl, _, rfl, _, rfl, _, rfl, ⟨a, pa, ra, ρ, s, c, p, l, rfl, sa, Nat.zero_le _, hc, hp, hpl, hk, hl, hl350, ?_⟩⟩
  cases z : carry s c p l with
  | ok x =>
    rw [z] at k
    intro H' ρ' q o h1 f e' r'
    refine k H' ρ' q o h1 f ?_ r'
    rw [e', nl_ints]
    rfl
  | error m =>
    rw [z] at k
    intro C d H' rc s1 ed
    refine ⟨true, rc.te, fun _ a0 ha0 => ?_, fun q => Bool.noConfusion q⟩
    refine ⟨C, rc, _, rfl, rfl, rfl, d, _, _, rfl, ed, lk_here, (by show 1 ≤ sizeLine; decide), fun q hq => ?_⟩
    have s2 := s1.trans (same_new (o := .lst [.int m]) hq)
    exact k _ ρ q (sa.own.same s2) (sa.at_.same s2) (Fr.of_same s2) upd_same (sa.own.free (s1.free hq))
end UB
namespace UB
open PySem PySem.Spec PyProof.Rows L2
open Ue03 (Change)
open Mir
/-! ### answers -/
abbrev s_answers : Stmt := top 52
theorem sc_answers : FnScope ["calls", "session", "answered", "place", "call", "plain", "row", "answer"] ["calls"] (defScope s_answers) := ⟨rfl, rfl, rfl, by decide +kernel, rfl, by decide +kernel, by decide +kernel⟩
/-- the calls are to be read, whatever else is done -/
def CallsAt (K : PySem.W.Frag) (a : Addr) (l : List Nat) (ρ : Rho) (H : Hp) : Prop := (∃ o, (∀ H' : Hp, H' a = some o → SqL K H' a (nl l)) ∧ H a = some o ∧ ρ a = none) ∨ ∀ H' : Hp, SqL K H' a (nl l)
theorem CallsAt.seq {K : PySem.W.Frag} {a : Addr} {l : List Nat} {ρ : Rho} {H : Hp} (h : CallsAt K a l ρ H) : SqL K H a (nl l) := by
  rcases h with ⟨o, h1, h2, _⟩ | h
  · exact h1 H h2
  · exact h H
theorem CallsAt.fr {K : PySem.W.Frag} {a : Addr} {l : List Nat} {R : Role → Prop} {ρ ρ' : Rho} {H H' : Hp} (h : CallsAt K a l ρ H) (f : Fr R ρ H ρ' H') : CallsAt K a l ρ' H' := by
  rcases h with ⟨o, h1, h2, h3⟩ | h
  · obtain ⟨e, r⟩ := f.keep h2 h3
    exact .inl ⟨o, h1, e, r⟩
  · exact .inr h
theorem calls_of {K : PySem.W.Frag} {a : Addr} {l : List Nat} {ρ : Rho} {H : Hp} (h : SqL K H a (nl l)) (r : ρ a = none) : CallsAt K a l ρ H := by
  rcases h with (h | ⟨o, h⟩) | h
  · exact .inl ⟨_, fun H' e => .inl (.inl e), h, r⟩
  · exact .inl ⟨_, fun H' e => .inl (.inr ⟨o, e⟩), h, r⟩
  · exact .inr fun H' => .inr h
theorem ok_answers {P : Program} {w : World} {K : PySem.W.Frag} {mg : Str → Option Value} {base : Heap} {A : Ad} {f : Addr} {fd : FuncData} (F : Fun K "answers" "answers" s_answers f fd) (T : Txt K mg A)
    (m_Session_init : MakX P w K mg base CX0 5 "Session" A.cs.E ["self"] (sp_Session_init K A))
    (m_read_call : DefX P w K mg base CX0 1 "read_call" ["calls", "place"] (sp_read_call K A))
    (m_answer_to : DefX P w K mg base CX0 11 "answer_to" ["session", "call", "plain", "row"] (sp_answer_to K A))
    : FnOk P w K mg base CX0 12 f fd ["calls"] (sp_answers K A) := by
  have sc := sc_answers
  refine F.ok sc (fun vs H Q E h => sp_answers_len h) (fun cdv AA outer s H vs Q E hr h => ?_)
  refine ⟨_, (pss_cons (ps_set (i := 1) sc.nd rfl (Or.inl rfl) (pe_n0 m_Session_init hr (by decide) pass0))
      (pss_cons (ps_set (i := 2) sc.nd rfl (Or.inl rfl) (pe_lst pa_nil))
      (pss_cons (ps_set (i := 3) sc.nd rfl (Or.inl rfl) pe_int)
      (pss_cons (ps_while PassesOwn.never (pt_cmpR op_lt (pv 3) (pe_callB call_len_seq (by rfl) T.len PySem.boot_len (pa_cons (pv 0) pa_nil)) (nomark _)) (pss_cons (ps_asg (pe_f m_read_call hr (by decide) pass0 (pa_cons (pv 0) (pa_cons (pv 3) pa_nil))) (pg_tup rfl (pgs_cons (pg_name (i := 4) sc.nd rfl (Or.inl rfl)) (pgs_cons (pg_name (i := 5) sc.nd rfl (Or.inl rfl)) (pgs_cons (pg_name (i := 6) sc.nd rfl (Or.inl rfl)) (pgs_cons (pg_name (i := 3) sc.nd rfl (Or.inl rfl)) pgs_nil))))))
        (pss_cons (ps_set (i := 7) sc.nd rfl (Or.inl rfl) (pe_f m_answer_to hr (by decide) pass0 (pa_cons (pv 1) (pa_cons (pv 4) (pa_cons (pv 5) (pa_cons (pv 6) pa_nil))))))
        (pss_cons (ps_expr (pe_bm PySem.F.plainAttrs_list PySem.F.slot_list_append PySem.F.type_list_append mt_append (pv 2) (pa_cons (pe_callB call_len_seq (by rfl) T.len PySem.boot_len (pa_cons (pv 7) pa_nil)) pa_nil)))
        (pss_one (ps_expr (pe_bm PySem.F.plainAttrs_list PySem.F.slot_list_extend PySem.F.type_list_extend mt_extend (pv 2) (pa_cons (pv 7) pa_nil))))))))
      (pss_one (ps_ret (pv 2))))))), ?_⟩
  obtain ⟨a, l, rfl, hl, fine, hlen, k⟩ := h
  have own0 : Own (fun _ => none) H := fun b r e => by cases e
  intro x dx hx hdx hne
  have s1 : Same H (upd H dx (.own x)) := same_new hdx
  have hx1 : upd H dx (.own x) x = none := by
    rw [upd_ne (Ne.symm hne)]
    exact hx
  have s2 := s1.trans (same_new (o := .ins A.cs.E dx []) hx1)
  refine ⟨x, dx, fun _ => none, rfl, upd_same, own0.same s2, rfl, fun H1 ρ1 o1 hS1 but => ⟨rfl, ?_⟩⟩
  have f1 : Fr All (fun _ => none) H ρ1 H1 := fun b o eb _ => but b o (s2 b o eb) (ne_of_none eb hx)
  have calls1 : CallsAt K a l ρ1 H1 := (calls_of hl rfl).fr f1
  refine ⟨(by show 0 ≤ sizeLine; decide), fun aa haa => ?_⟩
  have f2 : Fr (fun _ => False) ρ1 H1 (give ρ1 aa .lo) (upd H1 aa (.lst [])) := Fr.give haa
  -- the loop
  refine ⟨fun m σ Hc => ∃ (ρ : Rho) (s : Se) (i : Nat) (acc : List Int) (v4 v5 v6 v7 : Option V), σ = [some (.ref a), some (.ref x), some (.ref aa), some (vn i), v4, v5, v6, v7] ∧ Own ρ Hc ∧ SeA A.cs ρ Hc s x ∧ Hc aa = some (.lst (acc.map V.int)) ∧ ρ aa = some .lo ∧ CallsAt K a l ρ Hc ∧
    Fine m s (l.drop i) ∧ acc ++ Mir.run m s (l.drop i) = Mir.run l.length Se.fresh l, ⟨l.length, give ρ1 aa .lo, Se.fresh, 0, [], none, none, none, none, rfl, o1.give, hS1.fr f2 (fun _ _ z => z), upd_same, give_same, calls1.fr f2, fine, rfl⟩, ?_⟩
  rintro m σ Hc ⟨ρ, s, i, acc, v4, v5, v6, v7, rfl, own, hS, eaa, raa, hcalls, hf, tot⟩
  have hq := hcalls.seq
  refine ⟨_, rfl, _, rfl, a, _, rfl, .inl hq, _, _, rfl, rfl, _, rfl, ?_⟩
  by_cases hi : i < l.length
  rotate_left
  · refine if_false_of (decide_eq_false (by rw [nl_len]; omega)) ?_
    have hd : l.drop i = [] := List.drop_of_length_le (by omega)
    have hr : Mir.run m s (l.drop i) = [] := by
      rw [hd]
      cases m with
      | zero => rfl
      | succ m => unfold Mir.run; rw [if_pos rfl]
    rw [hr, List.append_nil] at tot
    refine ⟨_, rfl, k Hc aa ?_⟩
    rw [eaa, tot]
  refine if_true_of (decide_eq_true (by rw [nl_len]; omega)) ?_
  have hne0 : l.drop i ≠ [] := fun z => by
    have := congrArg List.length z
    rw [List.length_drop, List.length_nil] at this
    omega
  cases m with
  | zero => exact absurd hf hne0
  | succ m =>
  rcases hf with hf | ⟨hc, hrl, hk, hrow, wf, hf⟩
  · exact absurd hf hne0
  refine ⟨_, fun _ _ h => h, ?_⟩
  have hpl : (readPlain (l.drop i)).length = plainOf ((l.drop i).headD 0) := by
    unfold readPlain
    rw [List.length_take, List.length_drop]
    have : plainOf ((l.drop i).headD 0) + 1 ≤ readLen (l.drop i) := by
      unfold readLen
      split <;> omega
    omega
  refine ⟨_, rfl, _, rfl, ⟨a, l, i, rfl, hq, hi, hc, hrl, fun H3 p u wd s3 hu hw huw ep eu ew => ?_⟩⟩
  refine ⟨p, _, rfl, SqT.of ep, rfl, _, _, rfl, _, _, rfl, _, _, rfl, _, _, rfl, rfl, ?_⟩
  refine ⟨_, rfl, _, rfl, _, rfl, _, rfl, ⟨x, u, wd, ρ, s, (l.drop i).headD 0, readPlain (l.drop i), readRow (l.drop i), rfl, ⟨own.same s3, hS.same s3, wf⟩, hc, eu, hpl, hk, ⟨own.free hw, ew⟩, hrow, fun H4 ρ4 q o4 hS4 f4 e4 r4 => ?_⟩⟩
  obtain ⟨eaa4, raa4⟩ := f4 aa _ (s3 _ _ eaa) (by rw [raa]; intro z hz; cases hz; exact fun y => y rfl)
  rw [raa] at raa4
  have hqa : q ≠ aa := fun z => by
    rw [z, raa4] at r4
    cases r4
  have hstep : turn s (carry s ((l.drop i).headD 0) (readPlain (l.drop i)) (readRow (l.drop i))) = step s (l.drop i) := rfl
  rw [hstep] at e4 hS4
  have total : acc ++ (((step s (l.drop i)).2.length : Int) :: (step s (l.drop i)).2 ++ Mir.run m (step s (l.drop i)).1 ((l.drop i).drop (readLen (l.drop i)))) = Mir.run l.length Se.fresh l := by
    rw [← tot]
    conv => rhs; unfold Mir.run
    rw [if_neg hne0]
  have tlen := congrArg List.length total
  rw [List.length_append, List.length_append, List.length_cons] at tlen
  refine ⟨_, rfl, .inl ⟨rfl, _, SqL.of eaa4⟩, _, rfl, q, _, rfl, .inl (SqL.of e4), aa, _, _, rfl, rfl, eaa4, (by rw [List.length_map]; exact size_lt (by omega)), ?_⟩
  have e5 : upd H4 aa (.lst (acc.map V.int ++ [V.int (((step s (l.drop i)).2.map V.int).length : Int)])) q = some (.lst ((step s (l.drop i)).2.map V.int)) := by
    rw [upd_ne hqa]
    exact e4
  refine ⟨_, rfl, .inl ⟨rfl, _, SqL.of upd_same⟩, _, rfl, aa, q, _, _, rfl, rfl, upd_same, e5, ?_, ?_⟩
  · rw [List.length_append, List.length_map, List.length_map]
    show _ + 1 + _ ≤ _
    exact size_le (by omega)
  rw [upd_upd]
  have f5 : Fr isLo ρ4 H4 ρ4 (upd H4 aa (.lst (acc.map V.int ++ [V.int (((step s (l.drop i)).2.map V.int).length : Int)] ++ (step s (l.drop i)).2.map V.int))) := Fr.upd raa4 rfl
  refine ⟨m, by omega, ρ4, (step s (l.drop i)).1, i + readLen (l.drop i), acc ++ (((step s (l.drop i)).2.length : Int) :: (step s (l.drop i)).2), _, _, _, _, rfl, o4.upd, hS4.fr f5 (fun r h z => h z), ?_, raa4, ((hcalls.fr (Fr.of_same (R := All) s3)).fr f4).fr f5, ?_, ?_⟩
  · rw [upd_same, List.length_map, List.map_append, List.map_cons, List.append_assoc]
    rfl
  · rw [← List.drop_drop]
    exact hf
  · rw [← total, List.drop_drop, List.append_assoc]
end UB
namespace UB
open PySem PySem.Spec PyProof.Rows L2
/-! ### the errors' classes -/
def spRef (K : PySem.W.Frag) : Sp := fun vs H Q _ => ∃ (a C : Addr) (n : Int), vs = [.ref a, .int n] ∧ ErrC K C ∧ H a = some (exo a C none) ∧ ∀ dx, H dx = none → dx ≠ a → Q .non (upd (upd H dx (exd dx [("code", .int n)])) a (exo a C (some dx)))
abbrev s_Refusal_init : Stmt := inClass (top 1) 0
theorem sc_Refusal_init : FnScope ["self", "code"] ["self", "code"] (defScope s_Refusal_init) := ⟨rfl, rfl, rfl, by decide +kernel, rfl, by decide +kernel, by decide +kernel⟩
theorem ok_Refusal_init {P : Program} {w : World} {K : PySem.W.Frag} {mg : Str → Option Value} {base : Heap} {f : Addr} {fd : FuncData} (F : Fun K "__init__" "Refusal.__init__" s_Refusal_init f fd) (exc : mg "Exception" = none)
    (vV : PySem.W.findCls K (.type "Exception") (.type "type") "__init__" = some (.val (.builtin "Exception.__init__")))
    : FnOk P w K mg base CX0 1 f fd ["self", "code"] (spRef K) := by
  have sc := sc_Refusal_init
  refine F.ok sc (fun vs H Q E h => ?_) (fun cdv AA outer s H vs Q E hr h => ?_)
  · obtain ⟨_, _, _, rfl, _⟩ := h
    rfl
  refine ⟨_, pss_cons (ps_expr (pe_excInit rfl exc vV (pa_cons (pv 0) (pa_cons (pv 1) pa_nil)))) (pss_one (ps_errSet (pv 0) (pv 1))), ?_⟩
  obtain ⟨a, C, n, rfl, hE, e, k⟩ := h
  refine ⟨_, rfl, _, rfl, a, C, [.int n], rfl, (by show 1 ≤ 1000; decide), hE, e, ?_⟩
  exact ⟨_, rfl, _, rfl, a, C, rfl, hE, hE.noC, e, fun dx n1 ne => k dx n1 ne⟩
abbrev s_OutOfRange_init : Stmt := inClass (top 2) 0
theorem sc_OutOfRange_init : FnScope ["self"] ["self"] (defScope s_OutOfRange_init) := ⟨rfl, rfl, rfl, by decide +kernel, rfl, by decide +kernel, by decide +kernel⟩
theorem ok_OutOfRange_init {P : Program} {w : World} {K : PySem.W.Frag} {mg : Str → Option Value} {base : Heap} {CR C f g : Addr} {fd gd : FuncData} (F : Fun K "__init__" "OutOfRange.__init__" s_OutOfRange_init f fd) (hR : mg "Refusal" = some (.ref CR)) (O : OffC K CR "__init__" g)
    (FR : FnOk P w K mg base CX0 1 g gd ["self", "code"] (spRef K)) (bR : Binds K gd ["self", "code"] []) (hE : ErrC K C)
    : FnOk P w K mg base CX0 2 f fd ["self"] (spErr C (-1)) := by
  have sc := sc_OutOfRange_init
  refine F.ok sc (fun vs H Q E h => ?_) (fun cdv AA outer s H vs Q E hr h => ?_)
  · obtain ⟨_, rfl, _⟩ := h
    rfl
  refine ⟨_, pss_one (ps_expr (pe_off rfl hR O FR hr bR pass0 (pa_cons (pv 0) (pa_cons (pe_un un_neg pe_int) pa_nil)))), ?_⟩
  obtain ⟨a, rfl, e, k⟩ := h
  exact ⟨_, rfl, _, rfl, a, C, -1, rfl, hE, e, fun dx n1 ne => k dx n1 ne⟩
abbrev s_NoSuchState_init : Stmt := inClass (top 3) 0
theorem sc_NoSuchState_init : FnScope ["self"] ["self"] (defScope s_NoSuchState_init) := ⟨rfl, rfl, rfl, by decide +kernel, rfl, by decide +kernel, by decide +kernel⟩
theorem ok_NoSuchState_init {P : Program} {w : World} {K : PySem.W.Frag} {mg : Str → Option Value} {base : Heap} {CR C f g : Addr} {fd gd : FuncData} (F : Fun K "__init__" "NoSuchState.__init__" s_NoSuchState_init f fd) (hR : mg "Refusal" = some (.ref CR)) (O : OffC K CR "__init__" g)
    (FR : FnOk P w K mg base CX0 1 g gd ["self", "code"] (spRef K)) (bR : Binds K gd ["self", "code"] []) (hE : ErrC K C)
    : FnOk P w K mg base CX0 2 f fd ["self"] (spErr C (-2)) := by
  have sc := sc_NoSuchState_init
  refine F.ok sc (fun vs H Q E h => ?_) (fun cdv AA outer s H vs Q E hr h => ?_)
  · obtain ⟨_, rfl, _⟩ := h
    rfl
  refine ⟨_, pss_one (ps_expr (pe_off rfl hR O FR hr bR pass0 (pa_cons (pv 0) (pa_cons (pe_un un_neg pe_int) pa_nil)))), ?_⟩
  obtain ⟨a, rfl, e, k⟩ := h
  exact ⟨_, rfl, _, rfl, a, C, -2, rfl, hE, e, fun dx n1 ne => k dx n1 ne⟩
abbrev s_SeveralChanges_init : Stmt := inClass (top 4) 0
theorem sc_SeveralChanges_init : FnScope ["self"] ["self"] (defScope s_SeveralChanges_init) := ⟨rfl, rfl, rfl, by decide +kernel, rfl, by decide +kernel, by decide +kernel⟩
theorem ok_SeveralChanges_init {P : Program} {w : World} {K : PySem.W.Frag} {mg : Str → Option Value} {base : Heap} {CR C f g : Addr} {fd gd : FuncData} (F : Fun K "__init__" "SeveralChanges.__init__" s_SeveralChanges_init f fd) (hR : mg "Refusal" = some (.ref CR)) (O : OffC K CR "__init__" g)
    (FR : FnOk P w K mg base CX0 1 g gd ["self", "code"] (spRef K)) (bR : Binds K gd ["self", "code"] []) (hE : ErrC K C)
    : FnOk P w K mg base CX0 2 f fd ["self"] (spErr C (-4)) := by
  have sc := sc_SeveralChanges_init
  refine F.ok sc (fun vs H Q E h => ?_) (fun cdv AA outer s H vs Q E hr h => ?_)
  · obtain ⟨_, rfl, _⟩ := h
    rfl
  refine ⟨_, pss_one (ps_expr (pe_off rfl hR O FR hr bR pass0 (pa_cons (pv 0) (pa_cons (pe_un un_neg pe_int) pa_nil)))), ?_⟩
  obtain ⟨a, rfl, e, k⟩ := h
  exact ⟨_, rfl, _, rfl, a, C, -4, rfl, hE, e, fun dx n1 ne => k dx n1 ne⟩
abbrev s_RevertedTextTooLong_init : Stmt := inClass (top 5) 0
theorem sc_RevertedTextTooLong_init : FnScope ["self"] ["self"] (defScope s_RevertedTextTooLong_init) := ⟨rfl, rfl, rfl, by decide +kernel, rfl, by decide +kernel, by decide +kernel⟩
theorem ok_RevertedTextTooLong_init {P : Program} {w : World} {K : PySem.W.Frag} {mg : Str → Option Value} {base : Heap} {CR C f g : Addr} {fd gd : FuncData} (F : Fun K "__init__" "RevertedTextTooLong.__init__" s_RevertedTextTooLong_init f fd) (hR : mg "Refusal" = some (.ref CR)) (O : OffC K CR "__init__" g)
    (FR : FnOk P w K mg base CX0 1 g gd ["self", "code"] (spRef K)) (bR : Binds K gd ["self", "code"] []) (hE : ErrC K C)
    : FnOk P w K mg base CX0 2 f fd ["self"] (spErr C (-5)) := by
  have sc := sc_RevertedTextTooLong_init
  refine F.ok sc (fun vs H Q E h => ?_) (fun cdv AA outer s H vs Q E hr h => ?_)
  · obtain ⟨_, rfl, _⟩ := h
    rfl
  refine ⟨_, pss_one (ps_expr (pe_off rfl hR O FR hr bR pass0 (pa_cons (pv 0) (pa_cons (pe_un un_neg pe_int) pa_nil)))), ?_⟩
  obtain ⟨a, rfl, e, k⟩ := h
  exact ⟨_, rfl, _, rfl, a, C, -5, rfl, hE, e, fun dx n1 ne => k dx n1 ne⟩
abbrev s_TextTooLong_init : Stmt := inClass (top 6) 0
theorem sc_TextTooLong_init : FnScope ["self"] ["self"] (defScope s_TextTooLong_init) := ⟨rfl, rfl, rfl, by decide +kernel, rfl, by decide +kernel, by decide +kernel⟩
theorem ok_TextTooLong_init {P : Program} {w : World} {K : PySem.W.Frag} {mg : Str → Option Value} {base : Heap} {CR C f g : Addr} {fd gd : FuncData} (F : Fun K "__init__" "TextTooLong.__init__" s_TextTooLong_init f fd) (hR : mg "Refusal" = some (.ref CR)) (O : OffC K CR "__init__" g)
    (FR : FnOk P w K mg base CX0 1 g gd ["self", "code"] (spRef K)) (bR : Binds K gd ["self", "code"] []) (hE : ErrC K C)
    : FnOk P w K mg base CX0 2 f fd ["self"] (spErr C (-6)) := by
  have sc := sc_TextTooLong_init
  refine F.ok sc (fun vs H Q E h => ?_) (fun cdv AA outer s H vs Q E hr h => ?_)
  · obtain ⟨_, rfl, _⟩ := h
    rfl
  refine ⟨_, pss_one (ps_expr (pe_off rfl hR O FR hr bR pass0 (pa_cons (pv 0) (pa_cons (pe_un un_neg pe_int) pa_nil)))), ?_⟩
  obtain ⟨a, rfl, e, k⟩ := h
  exact ⟨_, rfl, _, rfl, a, C, -6, rfl, hE, e, fun dx n1 ne => k dx n1 ne⟩
abbrev s_NotOnThePath_init : Stmt := inClass (top 7) 0
theorem sc_NotOnThePath_init : FnScope ["self"] ["self"] (defScope s_NotOnThePath_init) := ⟨rfl, rfl, rfl, by decide +kernel, rfl, by decide +kernel, by decide +kernel⟩
theorem ok_NotOnThePath_init {P : Program} {w : World} {K : PySem.W.Frag} {mg : Str → Option Value} {base : Heap} {CR C f g : Addr} {fd gd : FuncData} (F : Fun K "__init__" "NotOnThePath.__init__" s_NotOnThePath_init f fd) (hR : mg "Refusal" = some (.ref CR)) (O : OffC K CR "__init__" g)
    (FR : FnOk P w K mg base CX0 1 g gd ["self", "code"] (spRef K)) (bR : Binds K gd ["self", "code"] []) (hE : ErrC K C)
    : FnOk P w K mg base CX0 2 f fd ["self"] (spErr C (-6)) := by
  have sc := sc_NotOnThePath_init
  refine F.ok sc (fun vs H Q E h => ?_) (fun cdv AA outer s H vs Q E hr h => ?_)
  · obtain ⟨_, rfl, _⟩ := h
    rfl
  refine ⟨_, pss_one (ps_expr (pe_off rfl hR O FR hr bR pass0 (pa_cons (pv 0) (pa_cons (pe_un un_neg pe_int) pa_nil)))), ?_⟩
  obtain ⟨a, rfl, e, k⟩ := h
  exact ⟨_, rfl, _, rfl, a, C, -6, rfl, hE, e, fun dx n1 ne => k dx n1 ne⟩
abbrev s_NowhereToGo_init : Stmt := inClass (top 8) 0
theorem sc_NowhereToGo_init : FnScope ["self"] ["self"] (defScope s_NowhereToGo_init) := ⟨rfl, rfl, rfl, by decide +kernel, rfl, by decide +kernel, by decide +kernel⟩
theorem ok_NowhereToGo_init {P : Program} {w : World} {K : PySem.W.Frag} {mg : Str → Option Value} {base : Heap} {CR C f g : Addr} {fd gd : FuncData} (F : Fun K "__init__" "NowhereToGo.__init__" s_NowhereToGo_init f fd) (hR : mg "Refusal" = some (.ref CR)) (O : OffC K CR "__init__" g)
    (FR : FnOk P w K mg base CX0 1 g gd ["self", "code"] (spRef K)) (bR : Binds K gd ["self", "code"] []) (hE : ErrC K C)
    : FnOk P w K mg base CX0 2 f fd ["self"] (spErr C (-7)) := by
  have sc := sc_NowhereToGo_init
  refine F.ok sc (fun vs H Q E h => ?_) (fun cdv AA outer s H vs Q E hr h => ?_)
  · obtain ⟨_, rfl, _⟩ := h
    rfl
  refine ⟨_, pss_one (ps_expr (pe_off rfl hR O FR hr bR pass0 (pa_cons (pv 0) (pa_cons (pe_un un_neg pe_int) pa_nil)))), ?_⟩
  obtain ⟨a, rfl, e, k⟩ := h
  exact ⟨_, rfl, _, rfl, a, C, -7, rfl, hE, e, fun dx n1 ne => k dx n1 ne⟩
abbrev s_RegionOverlapped_init : Stmt := inClass (top 9) 0
theorem sc_RegionOverlapped_init : FnScope ["self"] ["self"] (defScope s_RegionOverlapped_init) := ⟨rfl, rfl, rfl, by decide +kernel, rfl, by decide +kernel, by decide +kernel⟩
theorem ok_RegionOverlapped_init {P : Program} {w : World} {K : PySem.W.Frag} {mg : Str → Option Value} {base : Heap} {CR C f g : Addr} {fd gd : FuncData} (F : Fun K "__init__" "RegionOverlapped.__init__" s_RegionOverlapped_init f fd) (hR : mg "Refusal" = some (.ref CR)) (O : OffC K CR "__init__" g)
    (FR : FnOk P w K mg base CX0 1 g gd ["self", "code"] (spRef K)) (bR : Binds K gd ["self", "code"] []) (hE : ErrC K C)
    : FnOk P w K mg base CX0 2 f fd ["self"] (spErr C (-8)) := by
  have sc := sc_RegionOverlapped_init
  refine F.ok sc (fun vs H Q E h => ?_) (fun cdv AA outer s H vs Q E hr h => ?_)
  · obtain ⟨_, rfl, _⟩ := h
    rfl
  refine ⟨_, pss_one (ps_expr (pe_off rfl hR O FR hr bR pass0 (pa_cons (pv 0) (pa_cons (pe_un un_neg pe_int) pa_nil)))), ?_⟩
  obtain ⟨a, rfl, e, k⟩ := h
  exact ⟨_, rfl, _, rfl, a, C, -8, rfl, hE, e, fun dx n1 ne => k dx n1 ne⟩
abbrev s_WrongForGroup_init : Stmt := inClass (top 10) 0
theorem sc_WrongForGroup_init : FnScope ["self"] ["self"] (defScope s_WrongForGroup_init) := ⟨rfl, rfl, rfl, by decide +kernel, rfl, by decide +kernel, by decide +kernel⟩
theorem ok_WrongForGroup_init {P : Program} {w : World} {K : PySem.W.Frag} {mg : Str → Option Value} {base : Heap} {CR C f g : Addr} {fd gd : FuncData} (F : Fun K "__init__" "WrongForGroup.__init__" s_WrongForGroup_init f fd) (hR : mg "Refusal" = some (.ref CR)) (O : OffC K CR "__init__" g)
    (FR : FnOk P w K mg base CX0 1 g gd ["self", "code"] (spRef K)) (bR : Binds K gd ["self", "code"] []) (hE : ErrC K C)
    : FnOk P w K mg base CX0 2 f fd ["self"] (spErr C (-9)) := by
  have sc := sc_WrongForGroup_init
  refine F.ok sc (fun vs H Q E h => ?_) (fun cdv AA outer s H vs Q E hr h => ?_)
  · obtain ⟨_, rfl, _⟩ := h
    rfl
  refine ⟨_, pss_one (ps_expr (pe_off rfl hR O FR hr bR pass0 (pa_cons (pv 0) (pa_cons (pe_un un_neg pe_int) pa_nil)))), ?_⟩
  obtain ⟨a, rfl, e, k⟩ := h
  exact ⟨_, rfl, _, rfl, a, C, -9, rfl, hE, e, fun dx n1 ne => k dx n1 ne⟩
end UB
namespace UB
open PySem PySem.Spec PyProof.Rows L2
/-! ### what the top has written gives every def its promise -/
theorem exm_by {K : PySem.W.Frag} {S B : Addr} (h1 : PySem.W.subIn K (.ref B) (.type "BaseException") = some true) (h2 : PySem.W.isClsIn K B = true) (h3 : PySem.W.typeIn K (.ref B) = some (.type "type")) (h4 : PySem.W.subIn K (.ref S) (.ref B) = some true) :
    PySem.W.exmOne K (.ref S) (.ref B) = some true := by
  have e1 : (PySem.W.subIn K (.ref B) (.type "BaseException") == some true) = true := by rw [h1] <;> rfl
  have e2 : ((PySem.W.clsIn K B).isSome && PySem.W.typeIn K (.ref B) == some (.type "type")) = true := by
    have h2' : (PySem.W.clsIn K B).isSome = true := h2
    rw [h2', h3] <;> rfl
  show (if (PySem.W.subIn K (.ref B) (.type "BaseException") == some true) = true then (if ((PySem.W.clsIn K B).isSome && PySem.W.typeIn K (.ref B) == some (.type "type")) = true then PySem.W.subIn K (.ref S) (.ref B) else none) else none) = some true
  rw [if_pos e1, if_pos e2]
  exact h4
theorem err_of {K : PySem.W.Frag} {C CR : Addr} (h : ∃ nm q N bs bm sn sub ab col dd k0 k1 k2 k3 k5, K.lookup C = some (PySem.excClassObj nm q C N bs bm true sn sub ab col dd k0 k1 k2 k3 k5 "Exception.__new__") ∧ bm = [.ref CR, .type "Exception", .type "BaseException", .type "object"]) :
    ∃ nm q N bs bm sn sub ab col dd k0 k1 k2 k3 k5, K.lookup C = some (PySem.excClassObj nm q C N bs bm true sn sub ab col dd k0 k1 k2 k3 k5 "Exception.__new__") ∧ Behind bm := by
  obtain ⟨a1, a2, a3, a4, a5, a6, a7, a8, a9, a10, a11, a12, a13, a14, a15, e, hb⟩ := h
  exact ⟨a1, a2, a3, a4, a5, a6, a7, a8, a9, a10, a11, a12, a13, a14, a15, e, .inr ⟨CR, hb⟩⟩
def spAns (K : PySem.W.Frag) : Sp := sp_answers K ⟨⟨0, 0, 0, 0⟩, 0, 0⟩
theorem all_mk {P : Program} {w : World} {K : PySem.W.Frag} {h : Heap} {mg : Str → Option Value} {fa CS CT CG CE CR PL C0 C1 C2 C3 C4 C5 C6 C7 C8 f0 f1 f2 f3 f4 f5 f6 f7 f8 f9 f10 f11 f12 f13 f14 f15 f16 f17 f18 f19 f20 f21 f22 f23 f24 f25 f26 f27 f28 f29 f30 f31 f32 f33 f34 f35 f36 f37 f38 f39 f40 f41 f42 f43 f44 f45 f46 f47 f48 f49 f50 f51 f52 f53 f54 f55 f56 f57 f58 f59 f60 f61 f62 f63 f64 f65 f66 : Addr} (X : K.In h) (G : h.Ns mainGlobals mg) (hfa : mg "answers" = some (.ref fa))
    {odP : Option Addr} {nP : Nat} {slP : Array (Option Value)} {t0 t1 t2 t3 t4 t5 t6 t7 t8 t9 t10 t11 t12 t13 t14 t15 t16 t17 t18 t19 u0 u1 u2 u3 u4 u5 u6 u7 u8 u9 u10 u11 u12 u13 u14 u15 u16 u17 u18 u19 u20 u21 : Tok}
    {od0 od1 od2 od3 od4 od5 od6 od7 od8 od9 od10 od11 od12 od13 od14 od15 od16 od17 od18 od19 od20 od21 od22 od23 od24 od25 od26 od27 od28 od29 od30 od31 od32 od33 od34 od35 od36 od37 od38 od39 od40 od41 od42 od43 od44 od45 od46 od47 od48 od49 od50 od51 od52 od53 od54 od55 od56 od57 od58 od59 od60 od61 od62 od63 od64 od65 od66 an0 an1 an2 an3 an4 an5 an6 an7 an8 an9 an10 an11 an12 an13 an14 an15 an16 an17 an18 an19 an20 an21 an22 an23 an24 an25 an26 an27 an28 an29 an30 an31 an32 an33 an34 an35 an36 an37 an38 an39 an40 an41 an42 an43 an44 an45 an46 an47 an48 an49 an50 an51 an52 an53 an54 an55 an56 an57 an58 an59 an60 an61 an62 an63 an64 an65 an66 : Option Addr} {sl0 sl1 sl2 sl3 sl4 sl5 sl6 sl7 sl8 sl9 sl10 sl11 sl12 sl13 sl14 sl15 sl16 sl17 sl18 sl19 sl20 sl21 sl22 sl23 sl24 sl25 sl26 sl27 sl28 sl29 sl30 sl31 sl32 sl33 sl34 sl35 sl36 sl37 sl38 sl39 sl40 sl41 sl42 sl43 sl44 sl45 sl46 sl47 sl48 sl49 sl50 sl51 sl52 sl53 sl54 sl55 sl56 sl57 sl58 sl59 sl60 sl61 sl62 sl63 sl64 sl65 sl66 : Array (Option Value)} {oc0 oc1 oc2 oc3 oc4 oc5 oc6 oc7 oc8 oc9 oc10 oc11 oc12 oc13 oc14 oc15 oc16 oc17 oc18 oc19 oc20 oc21 oc22 oc23 oc24 oc25 oc26 oc27 oc28 oc29 oc30 oc31 oc32 oc33 oc34 oc35 oc36 oc37 oc38 oc39 oc40 oc41 oc42 oc43 oc44 oc45 oc46 oc47 oc48 oc49 oc50 oc51 oc52 oc53 oc54 oc55 oc56 oc57 oc58 oc59 oc60 oc61 oc62 oc63 oc64 oc65 oc66 kV0 kV1 kV2 kV3 kV4 kV5 kV6 kV7 kV8 kV9 kV10 kV11 kV12 kV13 kV14 kV15 kV16 kV17 kV18 kV19 kV20 kV21 kV22 kV23 kV24 kV25 kV26 kV27 kV28 kV29 kV30 kV31 kV32 kV33 kV34 kV35 kV36 kV37 kV38 kV39 kV40 kV41 kV42 kV43 kV44 kV45 kV46 kV47 kV48 kV49 kV50 kV51 kV52 kV53 kV54 kV55 kV56 kV57 kV58 kV59 kV60 kV61 kV62 kV63 kV64 kV65 kV66 dc0 dc1 dc2 dc3 dc4 dc5 dc6 dc7 dc8 dc9 dc10 dc11 dc12 dc13 dc14 dc15 dc16 dc17 dc18 dc19 dc20 dc21 dc22 dc23 dc24 dc25 dc26 dc27 dc28 dc29 dc30 dc31 dc32 dc33 dc34 dc35 dc36 dc37 dc38 dc39 dc40 dc41 dc42 dc43 dc44 dc45 dc46 dc47 dc48 dc49 dc50 dc51 dc52 dc53 dc54 dc55 dc56 dc57 dc58 dc59 dc60 dc61 dc62 dc63 dc64 dc65 dc66 pm0 pm1 pm2 pm3 pm4 pm5 pm6 pm7 pm8 pm9 pm10 pm11 pm12 pm13 pm14 pm15 pm16 pm17 pm18 pm19 pm20 pm21 pm22 pm23 pm24 pm25 pm26 pm27 pm28 pm29 pm30 pm31 pm32 pm33 pm34 pm35 pm36 pm37 pm38 pm39 pm40 pm41 pm42 pm43 pm44 pm45 pm46 pm47 pm48 pm49 pm50 pm51 pm52 pm53 pm54 pm55 pm56 pm57 pm58 pm59 pm60 pm61 pm62 pm63 pm64 pm65 pm66 cd0 cd1 cd2 cd3 cd4 cd5 cd6 cd7 cd8 cd9 cd10 cd11 cd12 cd13 cd14 cd15 cd16 cd17 cd18 cd19 cd20 cd21 cd22 cd23 cd24 cd25 cd26 cd27 cd28 cd29 cd30 cd31 cd32 cd33 cd34 cd35 cd36 cd37 cd38 cd39 cd40 cd41 cd42 cd43 cd44 cd45 cd46 cd47 cd48 cd49 cd50 cd51 cd52 cd53 cd54 cd55 cd56 cd57 cd58 cd59 cd60 cd61 cd62 cd63 cd64 cd65 cd66 ct0 ct1 ct2 ct3 ct4 ct5 ct6 ct7 ct8 ct9 ct10 ct11 ct12 ct13 ct14 ct15 ct16 ct17 ct18 ct19 ct20 ct21 ct22 ct23 ct24 ct25 ct26 ct27 ct28 ct29 ct30 ct31 ct32 ct33 ct34 ct35 ct36 ct37 ct38 ct39 ct40 ct41 ct42 ct43 ct44 ct45 ct46 ct47 ct48 ct49 ct50 ct51 ct52 ct53 ct54 ct55 ct56 ct57 ct58 ct59 ct60 ct61 ct62 ct63 ct64 ct65 ct66 : Value}
    (aCS : PySem.W.nsIn K mainGlobals "State" = some (some (.ref CS)))
    (aCT : PySem.W.nsIn K mainGlobals "Tree" = some (some (.ref CT)))
    (aCG : PySem.W.nsIn K mainGlobals "Group" = some (some (.ref CG)))
    (aCE : PySem.W.nsIn K mainGlobals "Session" = some (some (.ref CE)))
    (aCR : PySem.W.nsIn K mainGlobals "Refusal" = some (some (.ref CR)))
    (aPL : PySem.W.nsIn K mainGlobals "PLAIN_NUMBERS" = some (some (.ref PL)))
    (aC0 : PySem.W.nsIn K mainGlobals "OutOfRange" = some (some (.ref C0)))
    (aC1 : PySem.W.nsIn K mainGlobals "NoSuchState" = some (some (.ref C1)))
    (aC2 : PySem.W.nsIn K mainGlobals "SeveralChanges" = some (some (.ref C2)))
    (aC3 : PySem.W.nsIn K mainGlobals "RevertedTextTooLong" = some (some (.ref C3)))
    (aC4 : PySem.W.nsIn K mainGlobals "TextTooLong" = some (some (.ref C4)))
    (aC5 : PySem.W.nsIn K mainGlobals "NotOnThePath" = some (some (.ref C5)))
    (aC6 : PySem.W.nsIn K mainGlobals "NowhereToGo" = some (some (.ref C6)))
    (aC7 : PySem.W.nsIn K mainGlobals "RegionOverlapped" = some (some (.ref C7)))
    (aC8 : PySem.W.nsIn K mainGlobals "WrongForGroup" = some (some (.ref C8)))
    (lPL : K.lookup PL = some ⟨.type "tuple", odP, .seq #[.int 0 t0, .int 1 t1, .int 2 t2, .int 0 t3, .int 0 t4, .int 0 t5, .int 0 t6, .int 1 t7, .int 1 t8, .int 1 t9, .int 1 t10, .int 0 t11, .int 1 t12, .int 0 t13, .int 2 t14, .int 0 t15, .int 1 t16, .int 2 t17, .int 1 t18, .int 1 t19] nP, slP⟩)
    (pgCS : PySem.W.plainGet K CS Str.empty = true)
    (hdCS : PySem.W.hasDictIn K CS = true)
    (poCS : PySem.W.plainOver K CS = true)
    (saCS : PySem.W.findIn K (.ref CS) "__setattr__" = some (some (.builtin "object.__setattr__")))
    (mkCS : PySem.W.makesIn K CS = true)
    (kcCS : PySem.W.keepIn K (.ref CS) = true)
    (pgCT : PySem.W.plainGet K CT Str.empty = true)
    (hdCT : PySem.W.hasDictIn K CT = true)
    (poCT : PySem.W.plainOver K CT = true)
    (saCT : PySem.W.findIn K (.ref CT) "__setattr__" = some (some (.builtin "object.__setattr__")))
    (mkCT : PySem.W.makesIn K CT = true)
    (kcCT : PySem.W.keepIn K (.ref CT) = true)
    (pgCG : PySem.W.plainGet K CG Str.empty = true)
    (hdCG : PySem.W.hasDictIn K CG = true)
    (poCG : PySem.W.plainOver K CG = true)
    (saCG : PySem.W.findIn K (.ref CG) "__setattr__" = some (some (.builtin "object.__setattr__")))
    (mkCG : PySem.W.makesIn K CG = true)
    (kcCG : PySem.W.keepIn K (.ref CG) = true)
    (pgCE : PySem.W.plainGet K CE Str.empty = true)
    (hdCE : PySem.W.hasDictIn K CE = true)
    (poCE : PySem.W.plainOver K CE = true)
    (saCE : PySem.W.findIn K (.ref CE) "__setattr__" = some (some (.builtin "object.__setattr__")))
    (mkCE : PySem.W.makesIn K CE = true)
    (kcCE : PySem.W.keepIn K (.ref CE) = true)
    (nS_parent : PySem.W.findIn K (.ref CS) "parent" = some none)
    (nS_time : PySem.W.findIn K (.ref CS) "time" = some none)
    (nS_changes : PySem.W.findIn K (.ref CS) "changes" = some none)
    (nS_text : PySem.W.findIn K (.ref CS) "text" = some none)
    (nS_kept : PySem.W.findIn K (.ref CS) "kept" = some none)
    (nS_children : PySem.W.findIn K (.ref CS) "children" = some none)
    (nS_visited : PySem.W.findIn K (.ref CS) "visited" = some none)
    (nT_states : PySem.W.findIn K (.ref CT) "states" = some none)
    (nT_current : PySem.W.findIn K (.ref CT) "current" = some none)
    (nT_next : PySem.W.findIn K (.ref CT) "next_number" = some none)
    (nG_changes : PySem.W.findIn K (.ref CG) "changes" = some none)
    (nG_text : PySem.W.findIn K (.ref CG) "text" = some none)
    (nE_tree : PySem.W.findIn K (.ref CE) "tree" = some none)
    (nE_clock : PySem.W.findIn K (.ref CE) "clock" = some none)
    (nE_group : PySem.W.findIn K (.ref CE) "group" = some none)
    (g_len : PySem.W.nsIn K mainGlobals "len" = some none)
    (g_max : PySem.W.nsIn K mainGlobals "max" = some none)
    (g_min : PySem.W.nsIn K mainGlobals "min" = some none)
    (g_sorted : PySem.W.nsIn K mainGlobals "sorted" = some none)
    (g_zip : PySem.W.nsIn K mainGlobals "zip" = some none)
    (g_exc : PySem.W.nsIn K mainGlobals "Exception" = some none)
    (c_GREATEST_BYTE : PySem.W.nsIn K mainGlobals "GREATEST_BYTE" = some (some (.int 255 u0)))
    (c_LONGEST_TEXT : PySem.W.nsIn K mainGlobals "LONGEST_TEXT" = some (some (.int 300 u1)))
    (c_LATEST_CLOCK : PySem.W.nsIn K mainGlobals "LATEST_CLOCK" = some (some (.int 1000000 u2)))
    (c_START : PySem.W.nsIn K mainGlobals "START" = some (some (.int 0 u3)))
    (c_WAIT : PySem.W.nsIn K mainGlobals "WAIT" = some (some (.int 1 u4)))
    (c_CHANGE : PySem.W.nsIn K mainGlobals "CHANGE" = some (some (.int 2 u5)))
    (c_OPEN_GROUP : PySem.W.nsIn K mainGlobals "OPEN_GROUP" = some (some (.int 3 u6)))
    (c_CLOSE_GROUP : PySem.W.nsIn K mainGlobals "CLOSE_GROUP" = some (some (.int 4 u7)))
    (c_UNDO : PySem.W.nsIn K mainGlobals "UNDO" = some (some (.int 5 u8)))
    (c_REDO : PySem.W.nsIn K mainGlobals "REDO" = some (some (.int 6 u9)))
    (c_GO_TO : PySem.W.nsIn K mainGlobals "GO_TO" = some (some (.int 7 u10)))
    (c_EARLIER : PySem.W.nsIn K mainGlobals "EARLIER" = some (some (.int 8 u11)))
    (c_LATER : PySem.W.nsIn K mainGlobals "LATER" = some (some (.int 9 u12)))
    (c_AGO : PySem.W.nsIn K mainGlobals "AGO" = some (some (.int 10 u13)))
    (c_GET_TEXT : PySem.W.nsIn K mainGlobals "GET_TEXT" = some (some (.int 11 u14)))
    (c_STATE_INFO : PySem.W.nsIn K mainGlobals "STATE_INFO" = some (some (.int 12 u15)))
    (c_LEAVES : PySem.W.nsIn K mainGlobals "LEAVES" = some (some (.int 13 u16)))
    (c_PATH : PySem.W.nsIn K mainGlobals "PATH" = some (some (.int 14 u17)))
    (c_ORIGINS : PySem.W.nsIn K mainGlobals "ORIGINS" = some (some (.int 15 u18)))
    (c_REVERT : PySem.W.nsIn K mainGlobals "REVERT" = some (some (.int 16 u19)))
    (c_SET_KEPT : PySem.W.nsIn K mainGlobals "SET_KEPT" = some (some (.int 17 u20)))
    (c_FORGET : PySem.W.nsIn K mainGlobals "FORGET" = some (some (.int 18 u21)))
    (a0 : PySem.W.findCls K (.ref CR) (.type "type") "__init__" = some (.val (.ref f0)))
    (l0 : K.lookup f0 = some ⟨oc0, od0, .func (PySem.W.fnOf "__init__" "Refusal.__init__" (defArgs s_Refusal_init) (defBody s_Refusal_init) (defScope s_Refusal_init) .none kV0 dc0 pm0 an0 cd0 ct0), sl0⟩)
    (c0 : PySem.W.codeIn K cd0 "Refusal.__init__" = true)
    (k0 : PySem.W.keepIn K (.ref f0) = true)
    (a1 : PySem.W.findIn K (.ref C0) "__init__" = some (some (.ref f1)))
    (i1 : PySem.W.typeIn K (.ref f1) = some (.type "function"))
    (l1 : K.lookup f1 = some ⟨oc1, od1, .func (PySem.W.fnOf "__init__" "OutOfRange.__init__" (defArgs s_OutOfRange_init) (defBody s_OutOfRange_init) (defScope s_OutOfRange_init) .none kV1 dc1 pm1 an1 cd1 ct1), sl1⟩)
    (c1 : PySem.W.codeIn K cd1 "OutOfRange.__init__" = true)
    (k1 : PySem.W.keepIn K (.ref f1) = true)
    (a2 : PySem.W.findIn K (.ref C1) "__init__" = some (some (.ref f2)))
    (i2 : PySem.W.typeIn K (.ref f2) = some (.type "function"))
    (l2 : K.lookup f2 = some ⟨oc2, od2, .func (PySem.W.fnOf "__init__" "NoSuchState.__init__" (defArgs s_NoSuchState_init) (defBody s_NoSuchState_init) (defScope s_NoSuchState_init) .none kV2 dc2 pm2 an2 cd2 ct2), sl2⟩)
    (c2 : PySem.W.codeIn K cd2 "NoSuchState.__init__" = true)
    (k2 : PySem.W.keepIn K (.ref f2) = true)
    (a3 : PySem.W.findIn K (.ref C2) "__init__" = some (some (.ref f3)))
    (i3 : PySem.W.typeIn K (.ref f3) = some (.type "function"))
    (l3 : K.lookup f3 = some ⟨oc3, od3, .func (PySem.W.fnOf "__init__" "SeveralChanges.__init__" (defArgs s_SeveralChanges_init) (defBody s_SeveralChanges_init) (defScope s_SeveralChanges_init) .none kV3 dc3 pm3 an3 cd3 ct3), sl3⟩)
    (c3 : PySem.W.codeIn K cd3 "SeveralChanges.__init__" = true)
    (k3 : PySem.W.keepIn K (.ref f3) = true)
    (a4 : PySem.W.findIn K (.ref C3) "__init__" = some (some (.ref f4)))
    (i4 : PySem.W.typeIn K (.ref f4) = some (.type "function"))
    (l4 : K.lookup f4 = some ⟨oc4, od4, .func (PySem.W.fnOf "__init__" "RevertedTextTooLong.__init__" (defArgs s_RevertedTextTooLong_init) (defBody s_RevertedTextTooLong_init) (defScope s_RevertedTextTooLong_init) .none kV4 dc4 pm4 an4 cd4 ct4), sl4⟩)
    (c4 : PySem.W.codeIn K cd4 "RevertedTextTooLong.__init__" = true)
    (k4 : PySem.W.keepIn K (.ref f4) = true)
    (a5 : PySem.W.findIn K (.ref C4) "__init__" = some (some (.ref f5)))
    (i5 : PySem.W.typeIn K (.ref f5) = some (.type "function"))
    (l5 : K.lookup f5 = some ⟨oc5, od5, .func (PySem.W.fnOf "__init__" "TextTooLong.__init__" (defArgs s_TextTooLong_init) (defBody s_TextTooLong_init) (defScope s_TextTooLong_init) .none kV5 dc5 pm5 an5 cd5 ct5), sl5⟩)
    (c5 : PySem.W.codeIn K cd5 "TextTooLong.__init__" = true)
    (k5 : PySem.W.keepIn K (.ref f5) = true)
    (a6 : PySem.W.findIn K (.ref C5) "__init__" = some (some (.ref f6)))
    (i6 : PySem.W.typeIn K (.ref f6) = some (.type "function"))
    (l6 : K.lookup f6 = some ⟨oc6, od6, .func (PySem.W.fnOf "__init__" "NotOnThePath.__init__" (defArgs s_NotOnThePath_init) (defBody s_NotOnThePath_init) (defScope s_NotOnThePath_init) .none kV6 dc6 pm6 an6 cd6 ct6), sl6⟩)
    (c6 : PySem.W.codeIn K cd6 "NotOnThePath.__init__" = true)
    (k6 : PySem.W.keepIn K (.ref f6) = true)
    (a7 : PySem.W.findIn K (.ref C6) "__init__" = some (some (.ref f7)))
    (i7 : PySem.W.typeIn K (.ref f7) = some (.type "function"))
    (l7 : K.lookup f7 = some ⟨oc7, od7, .func (PySem.W.fnOf "__init__" "NowhereToGo.__init__" (defArgs s_NowhereToGo_init) (defBody s_NowhereToGo_init) (defScope s_NowhereToGo_init) .none kV7 dc7 pm7 an7 cd7 ct7), sl7⟩)
    (c7 : PySem.W.codeIn K cd7 "NowhereToGo.__init__" = true)
    (k7 : PySem.W.keepIn K (.ref f7) = true)
    (a8 : PySem.W.findIn K (.ref C7) "__init__" = some (some (.ref f8)))
    (i8 : PySem.W.typeIn K (.ref f8) = some (.type "function"))
    (l8 : K.lookup f8 = some ⟨oc8, od8, .func (PySem.W.fnOf "__init__" "RegionOverlapped.__init__" (defArgs s_RegionOverlapped_init) (defBody s_RegionOverlapped_init) (defScope s_RegionOverlapped_init) .none kV8 dc8 pm8 an8 cd8 ct8), sl8⟩)
    (c8 : PySem.W.codeIn K cd8 "RegionOverlapped.__init__" = true)
    (k8 : PySem.W.keepIn K (.ref f8) = true)
    (a9 : PySem.W.findIn K (.ref C8) "__init__" = some (some (.ref f9)))
    (i9 : PySem.W.typeIn K (.ref f9) = some (.type "function"))
    (l9 : K.lookup f9 = some ⟨oc9, od9, .func (PySem.W.fnOf "__init__" "WrongForGroup.__init__" (defArgs s_WrongForGroup_init) (defBody s_WrongForGroup_init) (defScope s_WrongForGroup_init) .none kV9 dc9 pm9 an9 cd9 ct9), sl9⟩)
    (c9 : PySem.W.codeIn K cd9 "WrongForGroup.__init__" = true)
    (k9 : PySem.W.keepIn K (.ref f9) = true)
    (a10 : PySem.W.nsIn K mainGlobals "text_after" = some (some (.ref f10)))
    (l10 : K.lookup f10 = some ⟨oc10, od10, .func (PySem.W.fnOf "text_after" "text_after" (defArgs s_text_after) (defBody s_text_after) (defScope s_text_after) .none kV10 dc10 pm10 an10 cd10 ct10), sl10⟩)
    (c10 : PySem.W.codeIn K cd10 "text_after" = true)
    (k10 : PySem.W.keepIn K (.ref f10) = true)
    (a11 : PySem.W.nsIn K mainGlobals "region_start_after" = some (some (.ref f11)))
    (l11 : K.lookup f11 = some ⟨oc11, od11, .func (PySem.W.fnOf "region_start_after" "region_start_after" (defArgs s_region_start_after) (defBody s_region_start_after) (defScope s_region_start_after) .none kV11 dc11 pm11 an11 cd11 ct11), sl11⟩)
    (c11 : PySem.W.codeIn K cd11 "region_start_after" = true)
    (k11 : PySem.W.keepIn K (.ref f11) = true)
    (a12 : PySem.W.nsIn K mainGlobals "origins_after" = some (some (.ref f12)))
    (l12 : K.lookup f12 = some ⟨oc12, od12, .func (PySem.W.fnOf "origins_after" "origins_after" (defArgs s_origins_after) (defBody s_origins_after) (defScope s_origins_after) .none kV12 dc12 pm12 an12 cd12 ct12), sl12⟩)
    (c12 : PySem.W.codeIn K cd12 "origins_after" = true)
    (k12 : PySem.W.keepIn K (.ref f12) = true)
    (a13 : PySem.W.findIn K (.ref CS) "__init__" = some (some (.ref f13)))
    (i13 : PySem.W.isFn K (.ref f13) = true)
    (l13 : K.lookup f13 = some ⟨oc13, od13, .func (PySem.W.fnOf "__init__" "State.__init__" (defArgs s_State_init) (defBody s_State_init) (defScope s_State_init) .none kV13 dc13 pm13 an13 cd13 ct13), sl13⟩)
    (c13 : PySem.W.codeIn K cd13 "State.__init__" = true)
    (k13 : PySem.W.keepIn K (.ref f13) = true)
    (a14 : PySem.W.findIn K (.ref CS) "preferred_child" = some (some (.ref f14)))
    (i14 : PySem.W.isFn K (.ref f14) = true)
    (l14 : K.lookup f14 = some ⟨oc14, od14, .func (PySem.W.fnOf "preferred_child" "State.preferred_child" (defArgs s_State_preferred_child) (defBody s_State_preferred_child) (defScope s_State_preferred_child) .none kV14 dc14 pm14 an14 cd14 ct14), sl14⟩)
    (c14 : PySem.W.codeIn K cd14 "State.preferred_child" = true)
    (k14 : PySem.W.keepIn K (.ref f14) = true)
    (a15 : PySem.W.findIn K (.ref CT) "__init__" = some (some (.ref f15)))
    (i15 : PySem.W.isFn K (.ref f15) = true)
    (l15 : K.lookup f15 = some ⟨oc15, od15, .func (PySem.W.fnOf "__init__" "Tree.__init__" (defArgs s_Tree_init) (defBody s_Tree_init) (defScope s_Tree_init) .none kV15 dc15 pm15 an15 cd15 ct15), sl15⟩)
    (c15 : PySem.W.codeIn K cd15 "Tree.__init__" = true)
    (k15 : PySem.W.keepIn K (.ref f15) = true)
    (a16 : PySem.W.findIn K (.ref CT) "find_state" = some (some (.ref f16)))
    (i16 : PySem.W.isFn K (.ref f16) = true)
    (l16 : K.lookup f16 = some ⟨oc16, od16, .func (PySem.W.fnOf "find_state" "Tree.find_state" (defArgs s_Tree_find_state) (defBody s_Tree_find_state) (defScope s_Tree_find_state) .none kV16 dc16 pm16 an16 cd16 ct16), sl16⟩)
    (c16 : PySem.W.codeIn K cd16 "Tree.find_state" = true)
    (k16 : PySem.W.keepIn K (.ref f16) = true)
    (a17 : PySem.W.findIn K (.ref CT) "current_state" = some (some (.ref f17)))
    (i17 : PySem.W.isFn K (.ref f17) = true)
    (l17 : K.lookup f17 = some ⟨oc17, od17, .func (PySem.W.fnOf "current_state" "Tree.current_state" (defArgs s_Tree_current_state) (defBody s_Tree_current_state) (defScope s_Tree_current_state) .none kV17 dc17 pm17 an17 cd17 ct17), sl17⟩)
    (c17 : PySem.W.codeIn K cd17 "Tree.current_state" = true)
    (k17 : PySem.W.keepIn K (.ref f17) = true)
    (a18 : PySem.W.findIn K (.ref CT) "root" = some (some (.ref f18)))
    (i18 : PySem.W.isFn K (.ref f18) = true)
    (l18 : K.lookup f18 = some ⟨oc18, od18, .func (PySem.W.fnOf "root" "Tree.root" (defArgs s_Tree_root) (defBody s_Tree_root) (defScope s_Tree_root) .none kV18 dc18 pm18 an18 cd18 ct18), sl18⟩)
    (c18 : PySem.W.codeIn K cd18 "Tree.root" = true)
    (k18 : PySem.W.keepIn K (.ref f18) = true)
    (a19 : PySem.W.findIn K (.ref CT) "leaves" = some (some (.ref f19)))
    (i19 : PySem.W.isFn K (.ref f19) = true)
    (l19 : K.lookup f19 = some ⟨oc19, od19, .func (PySem.W.fnOf "leaves" "Tree.leaves" (defArgs s_Tree_leaves) (defBody s_Tree_leaves) (defScope s_Tree_leaves) .none kV19 dc19 pm19 an19 cd19 ct19), sl19⟩)
    (c19 : PySem.W.codeIn K cd19 "Tree.leaves" = true)
    (k19 : PySem.W.keepIn K (.ref f19) = true)
    (a20 : PySem.W.findIn K (.ref CT) "add_state" = some (some (.ref f20)))
    (i20 : PySem.W.isFn K (.ref f20) = true)
    (l20 : K.lookup f20 = some ⟨oc20, od20, .func (PySem.W.fnOf "add_state" "Tree.add_state" (defArgs s_Tree_add_state) (defBody s_Tree_add_state) (defScope s_Tree_add_state) .none kV20 dc20 pm20 an20 cd20 ct20), sl20⟩)
    (c20 : PySem.W.codeIn K cd20 "Tree.add_state" = true)
    (k20 : PySem.W.keepIn K (.ref f20) = true)
    (a21 : PySem.W.findIn K (.ref CT) "way_to" = some (some (.ref f21)))
    (i21 : PySem.W.isFn K (.ref f21) = true)
    (l21 : K.lookup f21 = some ⟨oc21, od21, .func (PySem.W.fnOf "way_to" "Tree.way_to" (defArgs s_Tree_way_to) (defBody s_Tree_way_to) (defScope s_Tree_way_to) .none kV21 dc21 pm21 an21 cd21 ct21), sl21⟩)
    (c21 : PySem.W.codeIn K cd21 "Tree.way_to" = true)
    (k21 : PySem.W.keepIn K (.ref f21) = true)
    (a22 : PySem.W.findIn K (.ref CT) "path" = some (some (.ref f22)))
    (i22 : PySem.W.isFn K (.ref f22) = true)
    (l22 : K.lookup f22 = some ⟨oc22, od22, .func (PySem.W.fnOf "path" "Tree.path" (defArgs s_Tree_path) (defBody s_Tree_path) (defScope s_Tree_path) .none kV22 dc22 pm22 an22 cd22 ct22), sl22⟩)
    (c22 : PySem.W.codeIn K cd22 "Tree.path" = true)
    (k22 : PySem.W.keepIn K (.ref f22) = true)
    (a23 : PySem.W.findIn K (.ref CT) "visit" = some (some (.ref f23)))
    (i23 : PySem.W.isFn K (.ref f23) = true)
    (l23 : K.lookup f23 = some ⟨oc23, od23, .func (PySem.W.fnOf "visit" "Tree.visit" (defArgs s_Tree_visit) (defBody s_Tree_visit) (defScope s_Tree_visit) .none kV23 dc23 pm23 an23 cd23 ct23), sl23⟩)
    (c23 : PySem.W.codeIn K cd23 "Tree.visit" = true)
    (k23 : PySem.W.keepIn K (.ref f23) = true)
    (a24 : PySem.W.findIn K (.ref CT) "can_go" = some (some (.ref f24)))
    (i24 : PySem.W.isFn K (.ref f24) = true)
    (l24 : K.lookup f24 = some ⟨oc24, od24, .func (PySem.W.fnOf "can_go" "Tree.can_go" (defArgs s_Tree_can_go) (defBody s_Tree_can_go) (defScope s_Tree_can_go) .none kV24 dc24 pm24 an24 cd24 ct24), sl24⟩)
    (c24 : PySem.W.codeIn K cd24 "Tree.can_go" = true)
    (k24 : PySem.W.keepIn K (.ref f24) = true)
    (a25 : PySem.W.findIn K (.ref CT) "first_leaf_to_go" = some (some (.ref f25)))
    (i25 : PySem.W.isFn K (.ref f25) = true)
    (l25 : K.lookup f25 = some ⟨oc25, od25, .func (PySem.W.fnOf "first_leaf_to_go" "Tree.first_leaf_to_go" (defArgs s_Tree_first_leaf_to_go) (defBody s_Tree_first_leaf_to_go) (defScope s_Tree_first_leaf_to_go) .none kV25 dc25 pm25 an25 cd25 ct25), sl25⟩)
    (c25 : PySem.W.codeIn K cd25 "Tree.first_leaf_to_go" = true)
    (k25 : PySem.W.keepIn K (.ref f25) = true)
    (a26 : PySem.W.findIn K (.ref CT) "root_can_go" = some (some (.ref f26)))
    (i26 : PySem.W.isFn K (.ref f26) = true)
    (l26 : K.lookup f26 = some ⟨oc26, od26, .func (PySem.W.fnOf "root_can_go" "Tree.root_can_go" (defArgs s_Tree_root_can_go) (defBody s_Tree_root_can_go) (defScope s_Tree_root_can_go) .none kV26 dc26 pm26 an26 cd26 ct26), sl26⟩)
    (c26 : PySem.W.codeIn K cd26 "Tree.root_can_go" = true)
    (k26 : PySem.W.keepIn K (.ref f26) = true)
    (a27 : PySem.W.findIn K (.ref CT) "delete_leaf" = some (some (.ref f27)))
    (i27 : PySem.W.isFn K (.ref f27) = true)
    (l27 : K.lookup f27 = some ⟨oc27, od27, .func (PySem.W.fnOf "delete_leaf" "Tree.delete_leaf" (defArgs s_Tree_delete_leaf) (defBody s_Tree_delete_leaf) (defScope s_Tree_delete_leaf) .none kV27 dc27 pm27 an27 cd27 ct27), sl27⟩)
    (c27 : PySem.W.codeIn K cd27 "Tree.delete_leaf" = true)
    (k27 : PySem.W.keepIn K (.ref f27) = true)
    (a28 : PySem.W.findIn K (.ref CT) "delete_root" = some (some (.ref f28)))
    (i28 : PySem.W.isFn K (.ref f28) = true)
    (l28 : K.lookup f28 = some ⟨oc28, od28, .func (PySem.W.fnOf "delete_root" "Tree.delete_root" (defArgs s_Tree_delete_root) (defBody s_Tree_delete_root) (defScope s_Tree_delete_root) .none kV28 dc28 pm28 an28 cd28 ct28), sl28⟩)
    (c28 : PySem.W.codeIn K cd28 "Tree.delete_root" = true)
    (k28 : PySem.W.keepIn K (.ref f28) = true)
    (a29 : PySem.W.findIn K (.ref CT) "forget" = some (some (.ref f29)))
    (i29 : PySem.W.isFn K (.ref f29) = true)
    (l29 : K.lookup f29 = some ⟨oc29, od29, .func (PySem.W.fnOf "forget" "Tree.forget" (defArgs s_Tree_forget) (defBody s_Tree_forget) (defScope s_Tree_forget) .none kV29 dc29 pm29 an29 cd29 ct29), sl29⟩)
    (c29 : PySem.W.codeIn K cd29 "Tree.forget" = true)
    (k29 : PySem.W.keepIn K (.ref f29) = true)
    (a30 : PySem.W.nsIn K mainGlobals "are_bytes" = some (some (.ref f30)))
    (l30 : K.lookup f30 = some ⟨oc30, od30, .func (PySem.W.fnOf "are_bytes" "are_bytes" (defArgs s_are_bytes) (defBody s_are_bytes) (defScope s_are_bytes) .none kV30 dc30 pm30 an30 cd30 ct30), sl30⟩)
    (c30 : PySem.W.codeIn K cd30 "are_bytes" = true)
    (k30 : PySem.W.keepIn K (.ref f30) = true)
    (a31 : PySem.W.nsIn K mainGlobals "counted" = some (some (.ref f31)))
    (l31 : K.lookup f31 = some ⟨oc31, od31, .func (PySem.W.fnOf "counted" "counted" (defArgs s_counted) (defBody s_counted) (defScope s_counted) .none kV31 dc31 pm31 an31 cd31 ct31), sl31⟩)
    (c31 : PySem.W.codeIn K cd31 "counted" = true)
    (k31 : PySem.W.keepIn K (.ref f31) = true)
    (a32 : PySem.W.findIn K (.ref CG) "__init__" = some (some (.ref f32)))
    (i32 : PySem.W.isFn K (.ref f32) = true)
    (l32 : K.lookup f32 = some ⟨oc32, od32, .func (PySem.W.fnOf "__init__" "Group.__init__" (defArgs s_Group_init) (defBody s_Group_init) (defScope s_Group_init) .none kV32 dc32 pm32 an32 cd32 ct32), sl32⟩)
    (c32 : PySem.W.codeIn K cd32 "Group.__init__" = true)
    (k32 : PySem.W.keepIn K (.ref f32) = true)
    (a33 : PySem.W.findIn K (.ref CG) "take" = some (some (.ref f33)))
    (i33 : PySem.W.isFn K (.ref f33) = true)
    (l33 : K.lookup f33 = some ⟨oc33, od33, .func (PySem.W.fnOf "take" "Group.take" (defArgs s_Group_take) (defBody s_Group_take) (defScope s_Group_take) .none kV33 dc33 pm33 an33 cd33 ct33), sl33⟩)
    (c33 : PySem.W.codeIn K cd33 "Group.take" = true)
    (k33 : PySem.W.keepIn K (.ref f33) = true)
    (a34 : PySem.W.findIn K (.ref CE) "__init__" = some (some (.ref f34)))
    (i34 : PySem.W.isFn K (.ref f34) = true)
    (l34 : K.lookup f34 = some ⟨oc34, od34, .func (PySem.W.fnOf "__init__" "Session.__init__" (defArgs s_Session_init) (defBody s_Session_init) (defScope s_Session_init) .none kV34 dc34 pm34 an34 cd34 ct34), sl34⟩)
    (c34 : PySem.W.codeIn K cd34 "Session.__init__" = true)
    (k34 : PySem.W.keepIn K (.ref f34) = true)
    (a35 : PySem.W.findIn K (.ref CE) "refuse_open_group" = some (some (.ref f35)))
    (i35 : PySem.W.isFn K (.ref f35) = true)
    (l35 : K.lookup f35 = some ⟨oc35, od35, .func (PySem.W.fnOf "refuse_open_group" "Session.refuse_open_group" (defArgs s_Session_refuse_open_group) (defBody s_Session_refuse_open_group) (defScope s_Session_refuse_open_group) .none kV35 dc35 pm35 an35 cd35 ct35), sl35⟩)
    (c35 : PySem.W.codeIn K cd35 "Session.refuse_open_group" = true)
    (k35 : PySem.W.keepIn K (.ref f35) = true)
    (a36 : PySem.W.findIn K (.ref CE) "current_text" = some (some (.ref f36)))
    (i36 : PySem.W.isFn K (.ref f36) = true)
    (l36 : K.lookup f36 = some ⟨oc36, od36, .func (PySem.W.fnOf "current_text" "Session.current_text" (defArgs s_Session_current_text) (defBody s_Session_current_text) (defScope s_Session_current_text) .none kV36 dc36 pm36 an36 cd36 ct36), sl36⟩)
    (c36 : PySem.W.codeIn K cd36 "Session.current_text" = true)
    (k36 : PySem.W.keepIn K (.ref f36) = true)
    (a37 : PySem.W.findIn K (.ref CE) "where" = some (some (.ref f37)))
    (i37 : PySem.W.isFn K (.ref f37) = true)
    (l37 : K.lookup f37 = some ⟨oc37, od37, .func (PySem.W.fnOf "where" "Session.where" (defArgs s_Session_where) (defBody s_Session_where) (defScope s_Session_where) .none kV37 dc37 pm37 an37 cd37 ct37), sl37⟩)
    (c37 : PySem.W.codeIn K cd37 "Session.where" = true)
    (k37 : PySem.W.keepIn K (.ref f37) = true)
    (a38 : PySem.W.findIn K (.ref CE) "move" = some (some (.ref f38)))
    (i38 : PySem.W.isFn K (.ref f38) = true)
    (l38 : K.lookup f38 = some ⟨oc38, od38, .func (PySem.W.fnOf "move" "Session.move" (defArgs s_Session_move) (defBody s_Session_move) (defScope s_Session_move) .none kV38 dc38 pm38 an38 cd38 ct38), sl38⟩)
    (c38 : PySem.W.codeIn K cd38 "Session.move" = true)
    (k38 : PySem.W.keepIn K (.ref f38) = true)
    (a39 : PySem.W.findIn K (.ref CE) "move_in_order" = some (some (.ref f39)))
    (i39 : PySem.W.isFn K (.ref f39) = true)
    (l39 : K.lookup f39 = some ⟨oc39, od39, .func (PySem.W.fnOf "move_in_order" "Session.move_in_order" (defArgs s_Session_move_in_order) (defBody s_Session_move_in_order) (defScope s_Session_move_in_order) .none kV39 dc39 pm39 an39 cd39 ct39), sl39⟩)
    (c39 : PySem.W.codeIn K cd39 "Session.move_in_order" = true)
    (k39 : PySem.W.keepIn K (.ref f39) = true)
    (a40 : PySem.W.findIn K (.ref CE) "start" = some (some (.ref f40)))
    (i40 : PySem.W.isFn K (.ref f40) = true)
    (l40 : K.lookup f40 = some ⟨oc40, od40, .func (PySem.W.fnOf "start" "Session.start" (defArgs s_Session_start) (defBody s_Session_start) (defScope s_Session_start) .none kV40 dc40 pm40 an40 cd40 ct40), sl40⟩)
    (c40 : PySem.W.codeIn K cd40 "Session.start" = true)
    (k40 : PySem.W.keepIn K (.ref f40) = true)
    (a41 : PySem.W.findIn K (.ref CE) "wait" = some (some (.ref f41)))
    (i41 : PySem.W.isFn K (.ref f41) = true)
    (l41 : K.lookup f41 = some ⟨oc41, od41, .func (PySem.W.fnOf "wait" "Session.wait" (defArgs s_Session_wait) (defBody s_Session_wait) (defScope s_Session_wait) .none kV41 dc41 pm41 an41 cd41 ct41), sl41⟩)
    (c41 : PySem.W.codeIn K cd41 "Session.wait" = true)
    (k41 : PySem.W.keepIn K (.ref f41) = true)
    (a42 : PySem.W.findIn K (.ref CE) "change" = some (some (.ref f42)))
    (i42 : PySem.W.isFn K (.ref f42) = true)
    (l42 : K.lookup f42 = some ⟨oc42, od42, .func (PySem.W.fnOf "change" "Session.change" (defArgs s_Session_change) (defBody s_Session_change) (defScope s_Session_change) .none kV42 dc42 pm42 an42 cd42 ct42), sl42⟩)
    (c42 : PySem.W.codeIn K cd42 "Session.change" = true)
    (k42 : PySem.W.keepIn K (.ref f42) = true)
    (a43 : PySem.W.findIn K (.ref CE) "open_group" = some (some (.ref f43)))
    (i43 : PySem.W.isFn K (.ref f43) = true)
    (l43 : K.lookup f43 = some ⟨oc43, od43, .func (PySem.W.fnOf "open_group" "Session.open_group" (defArgs s_Session_open_group) (defBody s_Session_open_group) (defScope s_Session_open_group) .none kV43 dc43 pm43 an43 cd43 ct43), sl43⟩)
    (c43 : PySem.W.codeIn K cd43 "Session.open_group" = true)
    (k43 : PySem.W.keepIn K (.ref f43) = true)
    (a44 : PySem.W.findIn K (.ref CE) "close_group" = some (some (.ref f44)))
    (i44 : PySem.W.isFn K (.ref f44) = true)
    (l44 : K.lookup f44 = some ⟨oc44, od44, .func (PySem.W.fnOf "close_group" "Session.close_group" (defArgs s_Session_close_group) (defBody s_Session_close_group) (defScope s_Session_close_group) .none kV44 dc44 pm44 an44 cd44 ct44), sl44⟩)
    (c44 : PySem.W.codeIn K cd44 "Session.close_group" = true)
    (k44 : PySem.W.keepIn K (.ref f44) = true)
    (a45 : PySem.W.findIn K (.ref CE) "undo" = some (some (.ref f45)))
    (i45 : PySem.W.isFn K (.ref f45) = true)
    (l45 : K.lookup f45 = some ⟨oc45, od45, .func (PySem.W.fnOf "undo" "Session.undo" (defArgs s_Session_undo) (defBody s_Session_undo) (defScope s_Session_undo) .none kV45 dc45 pm45 an45 cd45 ct45), sl45⟩)
    (c45 : PySem.W.codeIn K cd45 "Session.undo" = true)
    (k45 : PySem.W.keepIn K (.ref f45) = true)
    (a46 : PySem.W.findIn K (.ref CE) "redo" = some (some (.ref f46)))
    (i46 : PySem.W.isFn K (.ref f46) = true)
    (l46 : K.lookup f46 = some ⟨oc46, od46, .func (PySem.W.fnOf "redo" "Session.redo" (defArgs s_Session_redo) (defBody s_Session_redo) (defScope s_Session_redo) .none kV46 dc46 pm46 an46 cd46 ct46), sl46⟩)
    (c46 : PySem.W.codeIn K cd46 "Session.redo" = true)
    (k46 : PySem.W.keepIn K (.ref f46) = true)
    (a47 : PySem.W.findIn K (.ref CE) "go_to" = some (some (.ref f47)))
    (i47 : PySem.W.isFn K (.ref f47) = true)
    (l47 : K.lookup f47 = some ⟨oc47, od47, .func (PySem.W.fnOf "go_to" "Session.go_to" (defArgs s_Session_go_to) (defBody s_Session_go_to) (defScope s_Session_go_to) .none kV47 dc47 pm47 an47 cd47 ct47), sl47⟩)
    (c47 : PySem.W.codeIn K cd47 "Session.go_to" = true)
    (k47 : PySem.W.keepIn K (.ref f47) = true)
    (a48 : PySem.W.findIn K (.ref CE) "earlier" = some (some (.ref f48)))
    (i48 : PySem.W.isFn K (.ref f48) = true)
    (l48 : K.lookup f48 = some ⟨oc48, od48, .func (PySem.W.fnOf "earlier" "Session.earlier" (defArgs s_Session_earlier) (defBody s_Session_earlier) (defScope s_Session_earlier) .none kV48 dc48 pm48 an48 cd48 ct48), sl48⟩)
    (c48 : PySem.W.codeIn K cd48 "Session.earlier" = true)
    (k48 : PySem.W.keepIn K (.ref f48) = true)
    (a49 : PySem.W.findIn K (.ref CE) "later" = some (some (.ref f49)))
    (i49 : PySem.W.isFn K (.ref f49) = true)
    (l49 : K.lookup f49 = some ⟨oc49, od49, .func (PySem.W.fnOf "later" "Session.later" (defArgs s_Session_later) (defBody s_Session_later) (defScope s_Session_later) .none kV49 dc49 pm49 an49 cd49 ct49), sl49⟩)
    (c49 : PySem.W.codeIn K cd49 "Session.later" = true)
    (k49 : PySem.W.keepIn K (.ref f49) = true)
    (a50 : PySem.W.findIn K (.ref CE) "ago" = some (some (.ref f50)))
    (i50 : PySem.W.isFn K (.ref f50) = true)
    (l50 : K.lookup f50 = some ⟨oc50, od50, .func (PySem.W.fnOf "ago" "Session.ago" (defArgs s_Session_ago) (defBody s_Session_ago) (defScope s_Session_ago) .none kV50 dc50 pm50 an50 cd50 ct50), sl50⟩)
    (c50 : PySem.W.codeIn K cd50 "Session.ago" = true)
    (k50 : PySem.W.keepIn K (.ref f50) = true)
    (a51 : PySem.W.findIn K (.ref CE) "get_text" = some (some (.ref f51)))
    (i51 : PySem.W.isFn K (.ref f51) = true)
    (l51 : K.lookup f51 = some ⟨oc51, od51, .func (PySem.W.fnOf "get_text" "Session.get_text" (defArgs s_Session_get_text) (defBody s_Session_get_text) (defScope s_Session_get_text) .none kV51 dc51 pm51 an51 cd51 ct51), sl51⟩)
    (c51 : PySem.W.codeIn K cd51 "Session.get_text" = true)
    (k51 : PySem.W.keepIn K (.ref f51) = true)
    (a52 : PySem.W.findIn K (.ref CE) "state_info" = some (some (.ref f52)))
    (i52 : PySem.W.isFn K (.ref f52) = true)
    (l52 : K.lookup f52 = some ⟨oc52, od52, .func (PySem.W.fnOf "state_info" "Session.state_info" (defArgs s_Session_state_info) (defBody s_Session_state_info) (defScope s_Session_state_info) .none kV52 dc52 pm52 an52 cd52 ct52), sl52⟩)
    (c52 : PySem.W.codeIn K cd52 "Session.state_info" = true)
    (k52 : PySem.W.keepIn K (.ref f52) = true)
    (a53 : PySem.W.findIn K (.ref CE) "leaves" = some (some (.ref f53)))
    (i53 : PySem.W.isFn K (.ref f53) = true)
    (l53 : K.lookup f53 = some ⟨oc53, od53, .func (PySem.W.fnOf "leaves" "Session.leaves" (defArgs s_Session_leaves) (defBody s_Session_leaves) (defScope s_Session_leaves) .none kV53 dc53 pm53 an53 cd53 ct53), sl53⟩)
    (c53 : PySem.W.codeIn K cd53 "Session.leaves" = true)
    (k53 : PySem.W.keepIn K (.ref f53) = true)
    (a54 : PySem.W.findIn K (.ref CE) "path" = some (some (.ref f54)))
    (i54 : PySem.W.isFn K (.ref f54) = true)
    (l54 : K.lookup f54 = some ⟨oc54, od54, .func (PySem.W.fnOf "path" "Session.path" (defArgs s_Session_path) (defBody s_Session_path) (defScope s_Session_path) .none kV54 dc54 pm54 an54 cd54 ct54), sl54⟩)
    (c54 : PySem.W.codeIn K cd54 "Session.path" = true)
    (k54 : PySem.W.keepIn K (.ref f54) = true)
    (a55 : PySem.W.findIn K (.ref CE) "origins" = some (some (.ref f55)))
    (i55 : PySem.W.isFn K (.ref f55) = true)
    (l55 : K.lookup f55 = some ⟨oc55, od55, .func (PySem.W.fnOf "origins" "Session.origins" (defArgs s_Session_origins) (defBody s_Session_origins) (defScope s_Session_origins) .none kV55 dc55 pm55 an55 cd55 ct55), sl55⟩)
    (c55 : PySem.W.codeIn K cd55 "Session.origins" = true)
    (k55 : PySem.W.keepIn K (.ref f55) = true)
    (a56 : PySem.W.findIn K (.ref CE) "region_start" = some (some (.ref f56)))
    (i56 : PySem.W.isFn K (.ref f56) = true)
    (l56 : K.lookup f56 = some ⟨oc56, od56, .func (PySem.W.fnOf "region_start" "Session.region_start" (defArgs s_Session_region_start) (defBody s_Session_region_start) (defScope s_Session_region_start) .none kV56 dc56 pm56 an56 cd56 ct56), sl56⟩)
    (c56 : PySem.W.codeIn K cd56 "Session.region_start" = true)
    (k56 : PySem.W.keepIn K (.ref f56) = true)
    (a57 : PySem.W.findIn K (.ref CE) "revert" = some (some (.ref f57)))
    (i57 : PySem.W.isFn K (.ref f57) = true)
    (l57 : K.lookup f57 = some ⟨oc57, od57, .func (PySem.W.fnOf "revert" "Session.revert" (defArgs s_Session_revert) (defBody s_Session_revert) (defScope s_Session_revert) .none kV57 dc57 pm57 an57 cd57 ct57), sl57⟩)
    (c57 : PySem.W.codeIn K cd57 "Session.revert" = true)
    (k57 : PySem.W.keepIn K (.ref f57) = true)
    (a58 : PySem.W.findIn K (.ref CE) "set_kept" = some (some (.ref f58)))
    (i58 : PySem.W.isFn K (.ref f58) = true)
    (l58 : K.lookup f58 = some ⟨oc58, od58, .func (PySem.W.fnOf "set_kept" "Session.set_kept" (defArgs s_Session_set_kept) (defBody s_Session_set_kept) (defScope s_Session_set_kept) .none kV58 dc58 pm58 an58 cd58 ct58), sl58⟩)
    (c58 : PySem.W.codeIn K cd58 "Session.set_kept" = true)
    (k58 : PySem.W.keepIn K (.ref f58) = true)
    (a59 : PySem.W.findIn K (.ref CE) "forget" = some (some (.ref f59)))
    (i59 : PySem.W.isFn K (.ref f59) = true)
    (l59 : K.lookup f59 = some ⟨oc59, od59, .func (PySem.W.fnOf "forget" "Session.forget" (defArgs s_Session_forget) (defBody s_Session_forget) (defScope s_Session_forget) .none kV59 dc59 pm59 an59 cd59 ct59), sl59⟩)
    (c59 : PySem.W.codeIn K cd59 "Session.forget" = true)
    (k59 : PySem.W.keepIn K (.ref f59) = true)
    (a60 : PySem.W.findIn K (.ref CE) "text_of" = some (some (.ref f60)))
    (i60 : PySem.W.isFn K (.ref f60) = true)
    (l60 : K.lookup f60 = some ⟨oc60, od60, .func (PySem.W.fnOf "text_of" "Session.text_of" (defArgs s_Session_text_of) (defBody s_Session_text_of) (defScope s_Session_text_of) .none kV60 dc60 pm60 an60 cd60 ct60), sl60⟩)
    (c60 : PySem.W.codeIn K cd60 "Session.text_of" = true)
    (k60 : PySem.W.keepIn K (.ref f60) = true)
    (a61 : PySem.W.nsIn K mainGlobals "read_call" = some (some (.ref f61)))
    (l61 : K.lookup f61 = some ⟨oc61, od61, .func (PySem.W.fnOf "read_call" "read_call" (defArgs s_read_call) (defBody s_read_call) (defScope s_read_call) .none kV61 dc61 pm61 an61 cd61 ct61), sl61⟩)
    (c61 : PySem.W.codeIn K cd61 "read_call" = true)
    (k61 : PySem.W.keepIn K (.ref f61) = true)
    (a62 : PySem.W.nsIn K mainGlobals "go" = some (some (.ref f62)))
    (l62 : K.lookup f62 = some ⟨oc62, od62, .func (PySem.W.fnOf "go" "go" (defArgs s_go) (defBody s_go) (defScope s_go) .none kV62 dc62 pm62 an62 cd62 ct62), sl62⟩)
    (c62 : PySem.W.codeIn K cd62 "go" = true)
    (k62 : PySem.W.keepIn K (.ref f62) = true)
    (a63 : PySem.W.nsIn K mainGlobals "tell" = some (some (.ref f63)))
    (l63 : K.lookup f63 = some ⟨oc63, od63, .func (PySem.W.fnOf "tell" "tell" (defArgs s_tell) (defBody s_tell) (defScope s_tell) .none kV63 dc63 pm63 an63 cd63 ct63), sl63⟩)
    (c63 : PySem.W.codeIn K cd63 "tell" = true)
    (k63 : PySem.W.keepIn K (.ref f63) = true)
    (a64 : PySem.W.nsIn K mainGlobals "carry_out" = some (some (.ref f64)))
    (l64 : K.lookup f64 = some ⟨oc64, od64, .func (PySem.W.fnOf "carry_out" "carry_out" (defArgs s_carry_out) (defBody s_carry_out) (defScope s_carry_out) .none kV64 dc64 pm64 an64 cd64 ct64), sl64⟩)
    (c64 : PySem.W.codeIn K cd64 "carry_out" = true)
    (k64 : PySem.W.keepIn K (.ref f64) = true)
    (a65 : PySem.W.nsIn K mainGlobals "answer_to" = some (some (.ref f65)))
    (l65 : K.lookup f65 = some ⟨oc65, od65, .func (PySem.W.fnOf "answer_to" "answer_to" (defArgs s_answer_to) (defBody s_answer_to) (defScope s_answer_to) .none kV65 dc65 pm65 an65 cd65 ct65), sl65⟩)
    (c65 : PySem.W.codeIn K cd65 "answer_to" = true)
    (k65 : PySem.W.keepIn K (.ref f65) = true)
    (a66 : PySem.W.nsIn K mainGlobals "answers" = some (some (.ref f66)))
    (l66 : K.lookup f66 = some ⟨oc66, od66, .func (PySem.W.fnOf "answers" "answers" (defArgs s_answers) (defBody s_answers) (defScope s_answers) .none kV66 dc66 pm66 an66 cd66 ct66), sl66⟩)
    (c66 : PySem.W.codeIn K cd66 "answers" = true)
    (k66 : PySem.W.keepIn K (.ref f66) = true)
    (rdR : PySem.W.readsIn K CR (.type "type") = true)
    (gaR : PySem.W.specialIn K (.ref CR) "__getattribute__" = some (some (.builtin "type.__getattribute__")))
    (vV : PySem.W.findCls K (.type "Exception") (.type "type") "__init__" = some (.val (.builtin "Exception.__init__")))
    (bR : PySem.W.subIn K (.ref CR) (.type "BaseException") = some true)
    (isR : PySem.W.isClsIn K CR = true)
    (tyR : PySem.W.typeIn K (.ref CR) = some (.type "type"))
    (xc0 : ∃ nm q N bs bm sn sub ab col dd k0 k1 k2 k3 k5, K.lookup C0 = some (PySem.excClassObj nm q C0 N bs bm true sn sub ab col dd k0 k1 k2 k3 k5 "Exception.__new__") ∧ bm = [.ref CR, .type "Exception", .type "BaseException", .type "object"])
    (xs0 : PySem.W.findIn K (.ref C0) "__setattr__" = some (some (.builtin "object.__setattr__")))
    (xb0 : PySem.W.subIn K (.ref C0) (.type "BaseException") = some true)
    (xt0 : PySem.W.typeIn K (.ref C0) = some (.type "type"))
    (xk0 : PySem.W.keepIn K (.ref C0) = true)
    (xn0 : PySem.W.findIn K (.ref C0) "code" = some none)
    (xg0 : PySem.W.findIn K (.ref C0) "__getattribute__" = some (some (.builtin "BaseException.__getattribute__")))
    (xa0 : PySem.W.findIn K (.ref C0) "__getattr__" = some none)
    (xd0 : PySem.W.hasDictIn K C0 = true)
    (xu0 : PySem.W.subIn K (.ref C0) (.ref CR) = some true)
    (xc1 : ∃ nm q N bs bm sn sub ab col dd k0 k1 k2 k3 k5, K.lookup C1 = some (PySem.excClassObj nm q C1 N bs bm true sn sub ab col dd k0 k1 k2 k3 k5 "Exception.__new__") ∧ bm = [.ref CR, .type "Exception", .type "BaseException", .type "object"])
    (xs1 : PySem.W.findIn K (.ref C1) "__setattr__" = some (some (.builtin "object.__setattr__")))
    (xb1 : PySem.W.subIn K (.ref C1) (.type "BaseException") = some true)
    (xt1 : PySem.W.typeIn K (.ref C1) = some (.type "type"))
    (xk1 : PySem.W.keepIn K (.ref C1) = true)
    (xn1 : PySem.W.findIn K (.ref C1) "code" = some none)
    (xg1 : PySem.W.findIn K (.ref C1) "__getattribute__" = some (some (.builtin "BaseException.__getattribute__")))
    (xa1 : PySem.W.findIn K (.ref C1) "__getattr__" = some none)
    (xd1 : PySem.W.hasDictIn K C1 = true)
    (xu1 : PySem.W.subIn K (.ref C1) (.ref CR) = some true)
    (xc2 : ∃ nm q N bs bm sn sub ab col dd k0 k1 k2 k3 k5, K.lookup C2 = some (PySem.excClassObj nm q C2 N bs bm true sn sub ab col dd k0 k1 k2 k3 k5 "Exception.__new__") ∧ bm = [.ref CR, .type "Exception", .type "BaseException", .type "object"])
    (xs2 : PySem.W.findIn K (.ref C2) "__setattr__" = some (some (.builtin "object.__setattr__")))
    (xb2 : PySem.W.subIn K (.ref C2) (.type "BaseException") = some true)
    (xt2 : PySem.W.typeIn K (.ref C2) = some (.type "type"))
    (xk2 : PySem.W.keepIn K (.ref C2) = true)
    (xn2 : PySem.W.findIn K (.ref C2) "code" = some none)
    (xg2 : PySem.W.findIn K (.ref C2) "__getattribute__" = some (some (.builtin "BaseException.__getattribute__")))
    (xa2 : PySem.W.findIn K (.ref C2) "__getattr__" = some none)
    (xd2 : PySem.W.hasDictIn K C2 = true)
    (xu2 : PySem.W.subIn K (.ref C2) (.ref CR) = some true)
    (xc3 : ∃ nm q N bs bm sn sub ab col dd k0 k1 k2 k3 k5, K.lookup C3 = some (PySem.excClassObj nm q C3 N bs bm true sn sub ab col dd k0 k1 k2 k3 k5 "Exception.__new__") ∧ bm = [.ref CR, .type "Exception", .type "BaseException", .type "object"])
    (xs3 : PySem.W.findIn K (.ref C3) "__setattr__" = some (some (.builtin "object.__setattr__")))
    (xb3 : PySem.W.subIn K (.ref C3) (.type "BaseException") = some true)
    (xt3 : PySem.W.typeIn K (.ref C3) = some (.type "type"))
    (xk3 : PySem.W.keepIn K (.ref C3) = true)
    (xn3 : PySem.W.findIn K (.ref C3) "code" = some none)
    (xg3 : PySem.W.findIn K (.ref C3) "__getattribute__" = some (some (.builtin "BaseException.__getattribute__")))
    (xa3 : PySem.W.findIn K (.ref C3) "__getattr__" = some none)
    (xd3 : PySem.W.hasDictIn K C3 = true)
    (xu3 : PySem.W.subIn K (.ref C3) (.ref CR) = some true)
    (xc4 : ∃ nm q N bs bm sn sub ab col dd k0 k1 k2 k3 k5, K.lookup C4 = some (PySem.excClassObj nm q C4 N bs bm true sn sub ab col dd k0 k1 k2 k3 k5 "Exception.__new__") ∧ bm = [.ref CR, .type "Exception", .type "BaseException", .type "object"])
    (xs4 : PySem.W.findIn K (.ref C4) "__setattr__" = some (some (.builtin "object.__setattr__")))
    (xb4 : PySem.W.subIn K (.ref C4) (.type "BaseException") = some true)
    (xt4 : PySem.W.typeIn K (.ref C4) = some (.type "type"))
    (xk4 : PySem.W.keepIn K (.ref C4) = true)
    (xn4 : PySem.W.findIn K (.ref C4) "code" = some none)
    (xg4 : PySem.W.findIn K (.ref C4) "__getattribute__" = some (some (.builtin "BaseException.__getattribute__")))
    (xa4 : PySem.W.findIn K (.ref C4) "__getattr__" = some none)
    (xd4 : PySem.W.hasDictIn K C4 = true)
    (xu4 : PySem.W.subIn K (.ref C4) (.ref CR) = some true)
    (xc5 : ∃ nm q N bs bm sn sub ab col dd k0 k1 k2 k3 k5, K.lookup C5 = some (PySem.excClassObj nm q C5 N bs bm true sn sub ab col dd k0 k1 k2 k3 k5 "Exception.__new__") ∧ bm = [.ref CR, .type "Exception", .type "BaseException", .type "object"])
    (xs5 : PySem.W.findIn K (.ref C5) "__setattr__" = some (some (.builtin "object.__setattr__")))
    (xb5 : PySem.W.subIn K (.ref C5) (.type "BaseException") = some true)
    (xt5 : PySem.W.typeIn K (.ref C5) = some (.type "type"))
    (xk5 : PySem.W.keepIn K (.ref C5) = true)
    (xn5 : PySem.W.findIn K (.ref C5) "code" = some none)
    (xg5 : PySem.W.findIn K (.ref C5) "__getattribute__" = some (some (.builtin "BaseException.__getattribute__")))
    (xa5 : PySem.W.findIn K (.ref C5) "__getattr__" = some none)
    (xd5 : PySem.W.hasDictIn K C5 = true)
    (xu5 : PySem.W.subIn K (.ref C5) (.ref CR) = some true)
    (xc6 : ∃ nm q N bs bm sn sub ab col dd k0 k1 k2 k3 k5, K.lookup C6 = some (PySem.excClassObj nm q C6 N bs bm true sn sub ab col dd k0 k1 k2 k3 k5 "Exception.__new__") ∧ bm = [.ref CR, .type "Exception", .type "BaseException", .type "object"])
    (xs6 : PySem.W.findIn K (.ref C6) "__setattr__" = some (some (.builtin "object.__setattr__")))
    (xb6 : PySem.W.subIn K (.ref C6) (.type "BaseException") = some true)
    (xt6 : PySem.W.typeIn K (.ref C6) = some (.type "type"))
    (xk6 : PySem.W.keepIn K (.ref C6) = true)
    (xn6 : PySem.W.findIn K (.ref C6) "code" = some none)
    (xg6 : PySem.W.findIn K (.ref C6) "__getattribute__" = some (some (.builtin "BaseException.__getattribute__")))
    (xa6 : PySem.W.findIn K (.ref C6) "__getattr__" = some none)
    (xd6 : PySem.W.hasDictIn K C6 = true)
    (xu6 : PySem.W.subIn K (.ref C6) (.ref CR) = some true)
    (xc7 : ∃ nm q N bs bm sn sub ab col dd k0 k1 k2 k3 k5, K.lookup C7 = some (PySem.excClassObj nm q C7 N bs bm true sn sub ab col dd k0 k1 k2 k3 k5 "Exception.__new__") ∧ bm = [.ref CR, .type "Exception", .type "BaseException", .type "object"])
    (xs7 : PySem.W.findIn K (.ref C7) "__setattr__" = some (some (.builtin "object.__setattr__")))
    (xb7 : PySem.W.subIn K (.ref C7) (.type "BaseException") = some true)
    (xt7 : PySem.W.typeIn K (.ref C7) = some (.type "type"))
    (xk7 : PySem.W.keepIn K (.ref C7) = true)
    (xn7 : PySem.W.findIn K (.ref C7) "code" = some none)
    (xg7 : PySem.W.findIn K (.ref C7) "__getattribute__" = some (some (.builtin "BaseException.__getattribute__")))
    (xa7 : PySem.W.findIn K (.ref C7) "__getattr__" = some none)
    (xd7 : PySem.W.hasDictIn K C7 = true)
    (xu7 : PySem.W.subIn K (.ref C7) (.ref CR) = some true)
    (xc8 : ∃ nm q N bs bm sn sub ab col dd k0 k1 k2 k3 k5, K.lookup C8 = some (PySem.excClassObj nm q C8 N bs bm true sn sub ab col dd k0 k1 k2 k3 k5 "Exception.__new__") ∧ bm = [.ref CR, .type "Exception", .type "BaseException", .type "object"])
    (xs8 : PySem.W.findIn K (.ref C8) "__setattr__" = some (some (.builtin "object.__setattr__")))
    (xb8 : PySem.W.subIn K (.ref C8) (.type "BaseException") = some true)
    (xt8 : PySem.W.typeIn K (.ref C8) = some (.type "type"))
    (xk8 : PySem.W.keepIn K (.ref C8) = true)
    (xn8 : PySem.W.findIn K (.ref C8) "code" = some none)
    (xg8 : PySem.W.findIn K (.ref C8) "__getattribute__" = some (some (.builtin "BaseException.__getattribute__")))
    (xa8 : PySem.W.findIn K (.ref C8) "__getattr__" = some none)
    (xd8 : PySem.W.hasDictIn K C8 = true)
    (xu8 : PySem.W.subIn K (.ref C8) (.ref CR) = some true)
    : ∃ fd : FuncData, (∀ (s : Shared) (us : List Value), us.length = (["calls"] : List Str).length → BindsTo s fd ⟨us, []⟩ ((["calls"] : List Str).zip us)) ∧ ∀ base : Heap, K.In base → base.Ns mainGlobals mg → FnOk P w K mg base CX0 12 fa fd ["calls"] (spAns K) := by
  have e := hfa.symm.trans (PySem.W.mg_of X G a66)
  cases e
  have plains : ∀ H : Hp, SqT K H PL (nl Mir.plains) := fun H => .inr ⟨_, _, _, lPL, rfl, rfl, (by show 20 ≤ sizeLine; decide), .cons ⟨_, rfl⟩ (.cons ⟨_, rfl⟩ (.cons ⟨_, rfl⟩ (.cons ⟨_, rfl⟩ (.cons ⟨_, rfl⟩ (.cons ⟨_, rfl⟩ (.cons ⟨_, rfl⟩ (.cons ⟨_, rfl⟩ (.cons ⟨_, rfl⟩ (.cons ⟨_, rfl⟩ (.cons ⟨_, rfl⟩ (.cons ⟨_, rfl⟩ (.cons ⟨_, rfl⟩ (.cons ⟨_, rfl⟩ (.cons ⟨_, rfl⟩ (.cons ⟨_, rfl⟩ (.cons ⟨_, rfl⟩ (.cons ⟨_, rfl⟩ (.cons ⟨_, rfl⟩ (.cons ⟨_, rfl⟩ (.nil))))))))))))))))))))⟩
  have T : Txt K mg ⟨⟨CS, CT, CG, CE⟩, CR, PL⟩ := by
    refine { clS := ⟨pgCS, hdCS, poCS, saCS⟩, clT := ⟨pgCT, hdCT, poCT, saCT⟩, clG := ⟨pgCG, hdCG, poCG, saCG⟩, clE := ⟨pgCE, hdCE, poCE, saCE⟩, nS_parent := nS_parent, nS_time := nS_time, nS_changes := nS_changes, nS_text := nS_text, nS_kept := nS_kept, nS_children := nS_children, nS_visited := nS_visited, nT_states := nT_states, nT_current := nT_current, nT_next := nT_next, nG_changes := nG_changes, nG_text := nG_text, nE_tree := nE_tree, nE_clock := nE_clock, nE_group := nE_group, len := PySem.W.mg_none_of X G g_len, max := PySem.W.mg_none_of X G g_max, min := PySem.W.mg_none_of X G g_min, sorted := PySem.W.mg_none_of X G g_sorted, zip := PySem.W.mg_none_of X G g_zip, exc := PySem.W.mg_none_of X G g_exc, c_GREATEST_BYTE := ⟨_, PySem.W.mg_of X G c_GREATEST_BYTE, _, rfl⟩, c_LONGEST_TEXT := ⟨_, PySem.W.mg_of X G c_LONGEST_TEXT, _, rfl⟩, c_LATEST_CLOCK := ⟨_, PySem.W.mg_of X G c_LATEST_CLOCK, _, rfl⟩, c_START := ⟨_, PySem.W.mg_of X G c_START, _, rfl⟩, c_WAIT := ⟨_, PySem.W.mg_of X G c_WAIT, _, rfl⟩, c_CHANGE := ⟨_, PySem.W.mg_of X G c_CHANGE, _, rfl⟩, c_OPEN_GROUP := ⟨_, PySem.W.mg_of X G c_OPEN_GROUP, _, rfl⟩, c_CLOSE_GROUP := ⟨_, PySem.W.mg_of X G c_CLOSE_GROUP, _, rfl⟩, c_UNDO := ⟨_, PySem.W.mg_of X G c_UNDO, _, rfl⟩, c_REDO := ⟨_, PySem.W.mg_of X G c_REDO, _, rfl⟩, c_GO_TO := ⟨_, PySem.W.mg_of X G c_GO_TO, _, rfl⟩, c_EARLIER := ⟨_, PySem.W.mg_of X G c_EARLIER, _, rfl⟩, c_LATER := ⟨_, PySem.W.mg_of X G c_LATER, _, rfl⟩, c_AGO := ⟨_, PySem.W.mg_of X G c_AGO, _, rfl⟩, c_GET_TEXT := ⟨_, PySem.W.mg_of X G c_GET_TEXT, _, rfl⟩, c_STATE_INFO := ⟨_, PySem.W.mg_of X G c_STATE_INFO, _, rfl⟩, c_LEAVES := ⟨_, PySem.W.mg_of X G c_LEAVES, _, rfl⟩, c_PATH := ⟨_, PySem.W.mg_of X G c_PATH, _, rfl⟩, c_ORIGINS := ⟨_, PySem.W.mg_of X G c_ORIGINS, _, rfl⟩, c_REVERT := ⟨_, PySem.W.mg_of X G c_REVERT, _, rfl⟩, c_SET_KEPT := ⟨_, PySem.W.mg_of X G c_SET_KEPT, _, rfl⟩, c_FORGET := ⟨_, PySem.W.mg_of X G c_FORGET, _, rfl⟩, g_plains := PySem.W.mg_of X G aPL, plains := plains, g_Refusal := PySem.W.mg_of X G aCR }
  have F0 := fun_mk (st := s_Refusal_init) l0 c0 k0
  have b0 := F0.binds (ps := ["self", "code"]) fun _ _ _ _ _ _ us hl => match us, hl with | [_, _], _ => rfl
  have F1 := fun_mk (st := s_OutOfRange_init) l1 c1 k1
  have b1 := F1.binds (ps := ["self"]) fun _ _ _ _ _ _ us hl => match us, hl with | [_], _ => rfl
  have F2 := fun_mk (st := s_NoSuchState_init) l2 c2 k2
  have b2 := F2.binds (ps := ["self"]) fun _ _ _ _ _ _ us hl => match us, hl with | [_], _ => rfl
  have F3 := fun_mk (st := s_SeveralChanges_init) l3 c3 k3
  have b3 := F3.binds (ps := ["self"]) fun _ _ _ _ _ _ us hl => match us, hl with | [_], _ => rfl
  have F4 := fun_mk (st := s_RevertedTextTooLong_init) l4 c4 k4
  have b4 := F4.binds (ps := ["self"]) fun _ _ _ _ _ _ us hl => match us, hl with | [_], _ => rfl
  have F5 := fun_mk (st := s_TextTooLong_init) l5 c5 k5
  have b5 := F5.binds (ps := ["self"]) fun _ _ _ _ _ _ us hl => match us, hl with | [_], _ => rfl
  have F6 := fun_mk (st := s_NotOnThePath_init) l6 c6 k6
  have b6 := F6.binds (ps := ["self"]) fun _ _ _ _ _ _ us hl => match us, hl with | [_], _ => rfl
  have F7 := fun_mk (st := s_NowhereToGo_init) l7 c7 k7
  have b7 := F7.binds (ps := ["self"]) fun _ _ _ _ _ _ us hl => match us, hl with | [_], _ => rfl
  have F8 := fun_mk (st := s_RegionOverlapped_init) l8 c8 k8
  have b8 := F8.binds (ps := ["self"]) fun _ _ _ _ _ _ us hl => match us, hl with | [_], _ => rfl
  have F9 := fun_mk (st := s_WrongForGroup_init) l9 c9 k9
  have b9 := F9.binds (ps := ["self"]) fun _ _ _ _ _ _ us hl => match us, hl with | [_], _ => rfl
  have F10 := fun_mk (st := s_text_after) l10 c10 k10
  have b10 := F10.binds (ps := ["text", "change"]) fun _ _ _ _ _ _ us hl => match us, hl with | [_, _], _ => rfl
  have F11 := fun_mk (st := s_region_start_after) l11 c11 k11
  have b11 := F11.binds (ps := ["start", "length", "change"]) fun _ _ _ _ _ _ us hl => match us, hl with | [_, _, _], _ => rfl
  have F12 := fun_mk (st := s_origins_after) l12 c12 k12
  have b12 := F12.binds (ps := ["origins", "change", "number"]) fun _ _ _ _ _ _ us hl => match us, hl with | [_, _, _], _ => rfl
  have F13 := fun_mk (st := s_State_init) l13 c13 k13
  have b13 := F13.binds (ps := ["self", "parent", "time", "changes", "text"]) fun _ _ _ _ _ _ us hl => match us, hl with | [_, _, _, _, _], _ => rfl
  have F14 := fun_mk (st := s_State_preferred_child) l14 c14 k14
  have b14 := F14.binds (ps := ["self"]) fun _ _ _ _ _ _ us hl => match us, hl with | [_], _ => rfl
  have F15 := fun_mk (st := s_Tree_init) l15 c15 k15
  have b15 := F15.binds (ps := ["self", "text"]) fun _ _ _ _ _ _ us hl => match us, hl with | [_, _], _ => rfl
  have F16 := fun_mk (st := s_Tree_find_state) l16 c16 k16
  have b16 := F16.binds (ps := ["self", "number"]) fun _ _ _ _ _ _ us hl => match us, hl with | [_, _], _ => rfl
  have F17 := fun_mk (st := s_Tree_current_state) l17 c17 k17
  have b17 := F17.binds (ps := ["self"]) fun _ _ _ _ _ _ us hl => match us, hl with | [_], _ => rfl
  have F18 := fun_mk (st := s_Tree_root) l18 c18 k18
  have b18 := F18.binds (ps := ["self"]) fun _ _ _ _ _ _ us hl => match us, hl with | [_], _ => rfl
  have F19 := fun_mk (st := s_Tree_leaves) l19 c19 k19
  have b19 := F19.binds (ps := ["self"]) fun _ _ _ _ _ _ us hl => match us, hl with | [_], _ => rfl
  have F20 := fun_mk (st := s_Tree_add_state) l20 c20 k20
  have b20 := F20.binds (ps := ["self", "time", "changes", "text"]) fun _ _ _ _ _ _ us hl => match us, hl with | [_, _, _, _], _ => rfl
  have F21 := fun_mk (st := s_Tree_way_to) l21 c21 k21
  have b21 := F21.binds (ps := ["self", "number"]) fun _ _ _ _ _ _ us hl => match us, hl with | [_, _], _ => rfl
  have F22 := fun_mk (st := s_Tree_path) l22 c22 k22
  have b22 := F22.binds (ps := ["self", "from_state", "to_state"]) fun _ _ _ _ _ _ us hl => match us, hl with | [_, _, _], _ => rfl
  have F23 := fun_mk (st := s_Tree_visit) l23 c23 k23
  have b23 := F23.binds (ps := ["self", "number"]) fun _ _ _ _ _ _ us hl => match us, hl with | [_, _], _ => rfl
  have F24 := fun_mk (st := s_Tree_can_go) l24 c24 k24
  have b24 := F24.binds (ps := ["self", "number"]) fun _ _ _ _ _ _ us hl => match us, hl with | [_, _], _ => rfl
  have F25 := fun_mk (st := s_Tree_first_leaf_to_go) l25 c25 k25
  have b25 := F25.binds (ps := ["self"]) fun _ _ _ _ _ _ us hl => match us, hl with | [_], _ => rfl
  have F26 := fun_mk (st := s_Tree_root_can_go) l26 c26 k26
  have b26 := F26.binds (ps := ["self"]) fun _ _ _ _ _ _ us hl => match us, hl with | [_], _ => rfl
  have F27 := fun_mk (st := s_Tree_delete_leaf) l27 c27 k27
  have b27 := F27.binds (ps := ["self", "number"]) fun _ _ _ _ _ _ us hl => match us, hl with | [_, _], _ => rfl
  have F28 := fun_mk (st := s_Tree_delete_root) l28 c28 k28
  have b28 := F28.binds (ps := ["self"]) fun _ _ _ _ _ _ us hl => match us, hl with | [_], _ => rfl
  have F29 := fun_mk (st := s_Tree_forget) l29 c29 k29
  have b29 := F29.binds (ps := ["self", "limit"]) fun _ _ _ _ _ _ us hl => match us, hl with | [_, _], _ => rfl
  have F30 := fun_mk (st := s_are_bytes) l30 c30 k30
  have b30 := F30.binds (ps := ["numbers"]) fun _ _ _ _ _ _ us hl => match us, hl with | [_], _ => rfl
  have F31 := fun_mk (st := s_counted) l31 c31 k31
  have b31 := F31.binds (ps := ["numbers"]) fun _ _ _ _ _ _ us hl => match us, hl with | [_], _ => rfl
  have F32 := fun_mk (st := s_Group_init) l32 c32 k32
  have b32 := F32.binds (ps := ["self", "text"]) fun _ _ _ _ _ _ us hl => match us, hl with | [_, _], _ => rfl
  have F33 := fun_mk (st := s_Group_take) l33 c33 k33
  have b33 := F33.binds (ps := ["self", "change", "text"]) fun _ _ _ _ _ _ us hl => match us, hl with | [_, _, _], _ => rfl
  have F34 := fun_mk (st := s_Session_init) l34 c34 k34
  have b34 := F34.binds (ps := ["self"]) fun _ _ _ _ _ _ us hl => match us, hl with | [_], _ => rfl
  have F35 := fun_mk (st := s_Session_refuse_open_group) l35 c35 k35
  have b35 := F35.binds (ps := ["self"]) fun _ _ _ _ _ _ us hl => match us, hl with | [_], _ => rfl
  have F36 := fun_mk (st := s_Session_current_text) l36 c36 k36
  have b36 := F36.binds (ps := ["self"]) fun _ _ _ _ _ _ us hl => match us, hl with | [_], _ => rfl
  have F37 := fun_mk (st := s_Session_where) l37 c37 k37
  have b37 := F37.binds (ps := ["self"]) fun _ _ _ _ _ _ us hl => match us, hl with | [_], _ => rfl
  have F38 := fun_mk (st := s_Session_move) l38 c38 k38
  have b38 := F38.binds (ps := ["self", "number"]) fun _ _ _ _ _ _ us hl => match us, hl with | [_, _], _ => rfl
  have F39 := fun_mk (st := s_Session_move_in_order) l39 c39 k39
  have b39 := F39.binds (ps := ["self", "numbers", "n"]) fun _ _ _ _ _ _ us hl => match us, hl with | [_, _, _], _ => rfl
  have F40 := fun_mk (st := s_Session_start) l40 c40 k40
  have b40 := F40.binds (ps := ["self", "text"]) fun _ _ _ _ _ _ us hl => match us, hl with | [_, _], _ => rfl
  have F41 := fun_mk (st := s_Session_wait) l41 c41 k41
  have b41 := F41.binds (ps := ["self", "ticks"]) fun _ _ _ _ _ _ us hl => match us, hl with | [_, _], _ => rfl
  have F42 := fun_mk (st := s_Session_change) l42 c42 k42
  have b42 := F42.binds (ps := ["self", "position", "removed", "inserted"]) fun _ _ _ _ _ _ us hl => match us, hl with | [_, _, _, _], _ => rfl
  have F43 := fun_mk (st := s_Session_open_group) l43 c43 k43
  have b43 := F43.binds (ps := ["self"]) fun _ _ _ _ _ _ us hl => match us, hl with | [_], _ => rfl
  have F44 := fun_mk (st := s_Session_close_group) l44 c44 k44
  have b44 := F44.binds (ps := ["self"]) fun _ _ _ _ _ _ us hl => match us, hl with | [_], _ => rfl
  have F45 := fun_mk (st := s_Session_undo) l45 c45 k45
  have b45 := F45.binds (ps := ["self"]) fun _ _ _ _ _ _ us hl => match us, hl with | [_], _ => rfl
  have F46 := fun_mk (st := s_Session_redo) l46 c46 k46
  have b46 := F46.binds (ps := ["self"]) fun _ _ _ _ _ _ us hl => match us, hl with | [_], _ => rfl
  have F47 := fun_mk (st := s_Session_go_to) l47 c47 k47
  have b47 := F47.binds (ps := ["self", "number"]) fun _ _ _ _ _ _ us hl => match us, hl with | [_, _], _ => rfl
  have F48 := fun_mk (st := s_Session_earlier) l48 c48 k48
  have b48 := F48.binds (ps := ["self", "n"]) fun _ _ _ _ _ _ us hl => match us, hl with | [_, _], _ => rfl
  have F49 := fun_mk (st := s_Session_later) l49 c49 k49
  have b49 := F49.binds (ps := ["self", "n"]) fun _ _ _ _ _ _ us hl => match us, hl with | [_, _], _ => rfl
  have F50 := fun_mk (st := s_Session_ago) l50 c50 k50
  have b50 := F50.binds (ps := ["self", "ticks"]) fun _ _ _ _ _ _ us hl => match us, hl with | [_, _], _ => rfl
  have F51 := fun_mk (st := s_Session_get_text) l51 c51 k51
  have b51 := F51.binds (ps := ["self"]) fun _ _ _ _ _ _ us hl => match us, hl with | [_], _ => rfl
  have F52 := fun_mk (st := s_Session_state_info) l52 c52 k52
  have b52 := F52.binds (ps := ["self", "number"]) fun _ _ _ _ _ _ us hl => match us, hl with | [_, _], _ => rfl
  have F53 := fun_mk (st := s_Session_leaves) l53 c53 k53
  have b53 := F53.binds (ps := ["self"]) fun _ _ _ _ _ _ us hl => match us, hl with | [_], _ => rfl
  have F54 := fun_mk (st := s_Session_path) l54 c54 k54
  have b54 := F54.binds (ps := ["self", "from_state", "to_state"]) fun _ _ _ _ _ _ us hl => match us, hl with | [_, _, _], _ => rfl
  have F55 := fun_mk (st := s_Session_origins) l55 c55 k55
  have b55 := F55.binds (ps := ["self"]) fun _ _ _ _ _ _ us hl => match us, hl with | [_], _ => rfl
  have F56 := fun_mk (st := s_Session_region_start) l56 c56 k56
  have b56 := F56.binds (ps := ["self", "number"]) fun _ _ _ _ _ _ us hl => match us, hl with | [_, _], _ => rfl
  have F57 := fun_mk (st := s_Session_revert) l57 c57 k57
  have b57 := F57.binds (ps := ["self", "number"]) fun _ _ _ _ _ _ us hl => match us, hl with | [_, _], _ => rfl
  have F58 := fun_mk (st := s_Session_set_kept) l58 c58 k58
  have b58 := F58.binds (ps := ["self", "number", "kept"]) fun _ _ _ _ _ _ us hl => match us, hl with | [_, _, _], _ => rfl
  have F59 := fun_mk (st := s_Session_forget) l59 c59 k59
  have b59 := F59.binds (ps := ["self", "limit"]) fun _ _ _ _ _ _ us hl => match us, hl with | [_, _], _ => rfl
  have F60 := fun_mk (st := s_Session_text_of) l60 c60 k60
  have b60 := F60.binds (ps := ["self", "number"]) fun _ _ _ _ _ _ us hl => match us, hl with | [_, _], _ => rfl
  have F61 := fun_mk (st := s_read_call) l61 c61 k61
  have b61 := F61.binds (ps := ["calls", "place"]) fun _ _ _ _ _ _ us hl => match us, hl with | [_, _], _ => rfl
  have F62 := fun_mk (st := s_go) l62 c62 k62
  have b62 := F62.binds (ps := ["session", "call", "plain"]) fun _ _ _ _ _ _ us hl => match us, hl with | [_, _, _], _ => rfl
  have F63 := fun_mk (st := s_tell) l63 c63 k63
  have b63 := F63.binds (ps := ["session", "call", "plain"]) fun _ _ _ _ _ _ us hl => match us, hl with | [_, _, _], _ => rfl
  have F64 := fun_mk (st := s_carry_out) l64 c64 k64
  have b64 := F64.binds (ps := ["session", "call", "plain", "row"]) fun _ _ _ _ _ _ us hl => match us, hl with | [_, _, _, _], _ => rfl
  have F65 := fun_mk (st := s_answer_to) l65 c65 k65
  have b65 := F65.binds (ps := ["session", "call", "plain", "row"]) fun _ _ _ _ _ _ us hl => match us, hl with | [_, _, _, _], _ => rfl
  have F66 := fun_mk (st := s_answers) l66 c66 k66
  refine ⟨PySem.W.fnOf "answers" "answers" (defArgs s_answers) (defBody s_answers) (defScope s_answers) .none kV66 dc66 pm66 an66 cd66 ct66, fun s us hu => match us, hu with | [_], _ => .of_eq rfl, fun base _ _ => ?_⟩
  have OR : OffC K CR "__init__" f0 := ⟨rdR, gaR, a0, k0⟩
  have R0 := ok_Refusal_init (P := P) (w := w) (base := base) F0 T.exc vV
  have X0 : ErrC K C0 := ⟨err_of xc0, xs0, xb0, xt0, xk0, xn0⟩
  have r_OutOfRange : RaiseC P w K mg base CR "OutOfRange" (-1) := ⟨⟨C0, f1, _, X0, ⟨⟨xg0, xa0, xb0, xd0⟩, xn0, exm_by bR isR tyR xu0⟩, PySem.W.mg_of X G aC0, a1, i1, ok_OutOfRange_init F1 (PySem.W.mg_of X G aCR) OR R0 b0 X0, b1⟩⟩
  have X1 : ErrC K C1 := ⟨err_of xc1, xs1, xb1, xt1, xk1, xn1⟩
  have r_NoSuchState : RaiseC P w K mg base CR "NoSuchState" (-2) := ⟨⟨C1, f2, _, X1, ⟨⟨xg1, xa1, xb1, xd1⟩, xn1, exm_by bR isR tyR xu1⟩, PySem.W.mg_of X G aC1, a2, i2, ok_NoSuchState_init F2 (PySem.W.mg_of X G aCR) OR R0 b0 X1, b2⟩⟩
  have X2 : ErrC K C2 := ⟨err_of xc2, xs2, xb2, xt2, xk2, xn2⟩
  have r_SeveralChanges : RaiseC P w K mg base CR "SeveralChanges" (-4) := ⟨⟨C2, f3, _, X2, ⟨⟨xg2, xa2, xb2, xd2⟩, xn2, exm_by bR isR tyR xu2⟩, PySem.W.mg_of X G aC2, a3, i3, ok_SeveralChanges_init F3 (PySem.W.mg_of X G aCR) OR R0 b0 X2, b3⟩⟩
  have X3 : ErrC K C3 := ⟨err_of xc3, xs3, xb3, xt3, xk3, xn3⟩
  have r_RevertedTextTooLong : RaiseC P w K mg base CR "RevertedTextTooLong" (-5) := ⟨⟨C3, f4, _, X3, ⟨⟨xg3, xa3, xb3, xd3⟩, xn3, exm_by bR isR tyR xu3⟩, PySem.W.mg_of X G aC3, a4, i4, ok_RevertedTextTooLong_init F4 (PySem.W.mg_of X G aCR) OR R0 b0 X3, b4⟩⟩
  have X4 : ErrC K C4 := ⟨err_of xc4, xs4, xb4, xt4, xk4, xn4⟩
  have r_TextTooLong : RaiseC P w K mg base CR "TextTooLong" (-6) := ⟨⟨C4, f5, _, X4, ⟨⟨xg4, xa4, xb4, xd4⟩, xn4, exm_by bR isR tyR xu4⟩, PySem.W.mg_of X G aC4, a5, i5, ok_TextTooLong_init F5 (PySem.W.mg_of X G aCR) OR R0 b0 X4, b5⟩⟩
  have X5 : ErrC K C5 := ⟨err_of xc5, xs5, xb5, xt5, xk5, xn5⟩
  have r_NotOnThePath : RaiseC P w K mg base CR "NotOnThePath" (-6) := ⟨⟨C5, f6, _, X5, ⟨⟨xg5, xa5, xb5, xd5⟩, xn5, exm_by bR isR tyR xu5⟩, PySem.W.mg_of X G aC5, a6, i6, ok_NotOnThePath_init F6 (PySem.W.mg_of X G aCR) OR R0 b0 X5, b6⟩⟩
  have X6 : ErrC K C6 := ⟨err_of xc6, xs6, xb6, xt6, xk6, xn6⟩
  have r_NowhereToGo : RaiseC P w K mg base CR "NowhereToGo" (-7) := ⟨⟨C6, f7, _, X6, ⟨⟨xg6, xa6, xb6, xd6⟩, xn6, exm_by bR isR tyR xu6⟩, PySem.W.mg_of X G aC6, a7, i7, ok_NowhereToGo_init F7 (PySem.W.mg_of X G aCR) OR R0 b0 X6, b7⟩⟩
  have X7 : ErrC K C7 := ⟨err_of xc7, xs7, xb7, xt7, xk7, xn7⟩
  have r_RegionOverlapped : RaiseC P w K mg base CR "RegionOverlapped" (-8) := ⟨⟨C7, f8, _, X7, ⟨⟨xg7, xa7, xb7, xd7⟩, xn7, exm_by bR isR tyR xu7⟩, PySem.W.mg_of X G aC7, a8, i8, ok_RegionOverlapped_init F8 (PySem.W.mg_of X G aCR) OR R0 b0 X7, b8⟩⟩
  have X8 : ErrC K C8 := ⟨err_of xc8, xs8, xb8, xt8, xk8, xn8⟩
  have r_WrongForGroup : RaiseC P w K mg base CR "WrongForGroup" (-9) := ⟨⟨C8, f9, _, X8, ⟨⟨xg8, xa8, xb8, xd8⟩, xn8, exm_by bR isR tyR xu8⟩, PySem.W.mg_of X G aC8, a9, i9, ok_WrongForGroup_init F9 (PySem.W.mg_of X G aCR) OR R0 b0 X8, b9⟩⟩
  have m_text_after : DefX P w K mg base CX0 1 "text_after" ["text", "change"] (sp_text_after K ⟨⟨CS, CT, CG, CE⟩, CR, PL⟩) := ⟨⟨_, _, PySem.W.mg_of X G a10, k10, ok_text_after F10 T , b10⟩⟩
  have m_region_start_after : DefX P w K mg base (L2.CX P w) 4 "region_start_after" ["start", "length", "change"] (sp_region_start_after K ⟨⟨CS, CT, CG, CE⟩, CR, PL⟩) := ⟨⟨_, _, PySem.W.mg_of X G a11, k11, ok_region_start_after F11 T r_RegionOverlapped, b11⟩⟩
  have m_origins_after : DefX P w K mg base CX0 2 "origins_after" ["origins", "change", "number"] (sp_origins_after K ⟨⟨CS, CT, CG, CE⟩, CR, PL⟩) := ⟨⟨_, _, PySem.W.mg_of X G a12, k12, ok_origins_after F12 T m_text_after, b12⟩⟩
  have m_State_init : MakX P w K mg base CX0 1 "State" CS ["self", "parent", "time", "changes", "text"] (sp_State_init K ⟨⟨CS, CT, CG, CE⟩, CR, PL⟩) := ⟨⟨_, _, ⟨mkCS, a13, i13, kcCS⟩, PySem.W.mg_of X G aCS, ok_State_init F13 T , b13⟩⟩
  have m_State_preferred_child : MetX P w K mg base CX0 1 CS "preferred_child" ["self"] (sp_State_preferred_child K ⟨⟨CS, CT, CG, CE⟩, CR, PL⟩) := ⟨⟨_, _, ⟨a14, i14, k14⟩, ok_State_preferred_child F14 T , b14⟩⟩
  have m_Tree_init : MakX P w K mg base CX0 3 "Tree" CT ["self", "text"] (sp_Tree_init K ⟨⟨CS, CT, CG, CE⟩, CR, PL⟩) := ⟨⟨_, _, ⟨mkCT, a15, i15, kcCT⟩, PySem.W.mg_of X G aCT, ok_Tree_init F15 T m_State_init, b15⟩⟩
  have m_Tree_find_state : MetX P w K mg base (L2.CX P w) 4 CT "find_state" ["self", "number"] (sp_Tree_find_state K ⟨⟨CS, CT, CG, CE⟩, CR, PL⟩) := ⟨⟨_, _, ⟨a16, i16, k16⟩, ok_Tree_find_state F16 T r_NoSuchState, b16⟩⟩
  have m_Tree_current_state : MetX P w K mg base CX0 1 CT "current_state" ["self"] (sp_Tree_current_state K ⟨⟨CS, CT, CG, CE⟩, CR, PL⟩) := ⟨⟨_, _, ⟨a17, i17, k17⟩, ok_Tree_current_state F17 T , b17⟩⟩
  have m_Tree_root : MetX P w K mg base CX0 1 CT "root" ["self"] (sp_Tree_root K ⟨⟨CS, CT, CG, CE⟩, CR, PL⟩) := ⟨⟨_, _, ⟨a18, i18, k18⟩, ok_Tree_root F18 T , b18⟩⟩
  have m_Tree_leaves : MetX P w K mg base CX0 1 CT "leaves" ["self"] (sp_Tree_leaves K ⟨⟨CS, CT, CG, CE⟩, CR, PL⟩) := ⟨⟨_, _, ⟨a19, i19, k19⟩, ok_Tree_leaves F19 T , b19⟩⟩
  have m_Tree_add_state : MetX P w K mg base CX0 3 CT "add_state" ["self", "time", "changes", "text"] (sp_Tree_add_state K ⟨⟨CS, CT, CG, CE⟩, CR, PL⟩) := ⟨⟨_, _, ⟨a20, i20, k20⟩, ok_Tree_add_state F20 T m_Tree_current_state m_State_init, b20⟩⟩
  have m_Tree_way_to : MetX P w K mg base CX0 1 CT "way_to" ["self", "number"] (sp_Tree_way_to K ⟨⟨CS, CT, CG, CE⟩, CR, PL⟩) := ⟨⟨_, _, ⟨a21, i21, k21⟩, ok_Tree_way_to F21 T , b21⟩⟩
  have m_Tree_path : MetX P w K mg base CX0 2 CT "path" ["self", "from_state", "to_state"] (sp_Tree_path K ⟨⟨CS, CT, CG, CE⟩, CR, PL⟩) := ⟨⟨_, _, ⟨a22, i22, k22⟩, ok_Tree_path F22 T m_Tree_way_to, b22⟩⟩
  have m_Tree_visit : MetX P w K mg base CX0 2 CT "visit" ["self", "number"] (sp_Tree_visit K ⟨⟨CS, CT, CG, CE⟩, CR, PL⟩) := ⟨⟨_, _, ⟨a23, i23, k23⟩, ok_Tree_visit F23 T m_Tree_way_to, b23⟩⟩
  have m_Tree_can_go : MetX P w K mg base CX0 1 CT "can_go" ["self", "number"] (sp_Tree_can_go K ⟨⟨CS, CT, CG, CE⟩, CR, PL⟩) := ⟨⟨_, _, ⟨a24, i24, k24⟩, ok_Tree_can_go F24 T , b24⟩⟩
  have m_Tree_first_leaf_to_go : MetX P w K mg base CX0 2 CT "first_leaf_to_go" ["self"] (sp_Tree_first_leaf_to_go K ⟨⟨CS, CT, CG, CE⟩, CR, PL⟩) := ⟨⟨_, _, ⟨a25, i25, k25⟩, ok_Tree_first_leaf_to_go F25 T m_Tree_leaves m_Tree_can_go, b25⟩⟩
  have m_Tree_root_can_go : MetX P w K mg base CX0 2 CT "root_can_go" ["self"] (sp_Tree_root_can_go K ⟨⟨CS, CT, CG, CE⟩, CR, PL⟩) := ⟨⟨_, _, ⟨a26, i26, k26⟩, ok_Tree_root_can_go F26 T m_Tree_root m_Tree_can_go, b26⟩⟩
  have m_Tree_delete_leaf : MetX P w K mg base CX0 1 CT "delete_leaf" ["self", "number"] (sp_Tree_delete_leaf K ⟨⟨CS, CT, CG, CE⟩, CR, PL⟩) := ⟨⟨_, _, ⟨a27, i27, k27⟩, ok_Tree_delete_leaf F27 T , b27⟩⟩
  have m_Tree_delete_root : MetX P w K mg base CX0 2 CT "delete_root" ["self"] (sp_Tree_delete_root K ⟨⟨CS, CT, CG, CE⟩, CR, PL⟩) := ⟨⟨_, _, ⟨a28, i28, k28⟩, ok_Tree_delete_root F28 T m_Tree_root, b28⟩⟩
  have m_Tree_forget : MetX P w K mg base CX0 3 CT "forget" ["self", "limit"] (sp_Tree_forget K ⟨⟨CS, CT, CG, CE⟩, CR, PL⟩) := ⟨⟨_, _, ⟨a29, i29, k29⟩, ok_Tree_forget F29 T m_Tree_first_leaf_to_go m_Tree_delete_leaf m_Tree_root_can_go m_Tree_delete_root, b29⟩⟩
  have m_are_bytes : DefX P w K mg base CX0 1 "are_bytes" ["numbers"] (sp_are_bytes K ⟨⟨CS, CT, CG, CE⟩, CR, PL⟩) := ⟨⟨_, _, PySem.W.mg_of X G a30, k30, ok_are_bytes F30 T , b30⟩⟩
  have m_counted : DefX P w K mg base CX0 1 "counted" ["numbers"] (sp_counted K ⟨⟨CS, CT, CG, CE⟩, CR, PL⟩) := ⟨⟨_, _, PySem.W.mg_of X G a31, k31, ok_counted F31 T , b31⟩⟩
  have m_Group_init : MakX P w K mg base CX0 1 "Group" CG ["self", "text"] (sp_Group_init K ⟨⟨CS, CT, CG, CE⟩, CR, PL⟩) := ⟨⟨_, _, ⟨mkCG, a32, i32, kcCG⟩, PySem.W.mg_of X G aCG, ok_Group_init F32 T , b32⟩⟩
  have m_Group_take : MetX P w K mg base CX0 1 CG "take" ["self", "change", "text"] (sp_Group_take K ⟨⟨CS, CT, CG, CE⟩, CR, PL⟩) := ⟨⟨_, _, ⟨a33, i33, k33⟩, ok_Group_take F33 T , b33⟩⟩
  have m_Session_init : MakX P w K mg base CX0 5 "Session" CE ["self"] (sp_Session_init K ⟨⟨CS, CT, CG, CE⟩, CR, PL⟩) := ⟨⟨_, _, ⟨mkCE, a34, i34, kcCE⟩, PySem.W.mg_of X G aCE, ok_Session_init F34 T m_Tree_init, b34⟩⟩
  have m_Session_refuse_open_group : MetX P w K mg base (L2.CX P w) 4 CE "refuse_open_group" ["self"] (sp_Session_refuse_open_group K ⟨⟨CS, CT, CG, CE⟩, CR, PL⟩) := ⟨⟨_, _, ⟨a35, i35, k35⟩, ok_Session_refuse_open_group F35 T r_WrongForGroup, b35⟩⟩
  have m_Session_current_text : MetX P w K mg base CX0 2 CE "current_text" ["self"] (sp_Session_current_text K ⟨⟨CS, CT, CG, CE⟩, CR, PL⟩) := ⟨⟨_, _, ⟨a36, i36, k36⟩, ok_Session_current_text F36 T m_Tree_current_state, b36⟩⟩
  have m_Session_where : MetX P w K mg base CX0 3 CE "where" ["self"] (sp_Session_where K ⟨⟨CS, CT, CG, CE⟩, CR, PL⟩) := ⟨⟨_, _, ⟨a37, i37, k37⟩, ok_Session_where F37 T m_Session_current_text, b37⟩⟩
  have m_Session_move : MetX P w K mg base CX0 4 CE "move" ["self", "number"] (sp_Session_move K ⟨⟨CS, CT, CG, CE⟩, CR, PL⟩) := ⟨⟨_, _, ⟨a38, i38, k38⟩, ok_Session_move F38 T m_Tree_path m_Tree_visit m_Session_current_text, b38⟩⟩
  have m_Session_move_in_order : MetX P w K mg base (L2.CX P w) 5 CE "move_in_order" ["self", "numbers", "n"] (sp_Session_move_in_order K ⟨⟨CS, CT, CG, CE⟩, CR, PL⟩) := ⟨⟨_, _, ⟨a39, i39, k39⟩, ok_Session_move_in_order F39 T r_OutOfRange r_NowhereToGo m_Session_move, b39⟩⟩
  have m_Session_start : MetX P w K mg base (L2.CX P w) 8 CE "start" ["self", "text"] (sp_Session_start K ⟨⟨CS, CT, CG, CE⟩, CR, PL⟩) := ⟨⟨_, _, ⟨a40, i40, k40⟩, ok_Session_start F40 T m_are_bytes r_OutOfRange m_Tree_init, b40⟩⟩
  have m_Session_wait : MetX P w K mg base (L2.CX P w) 8 CE "wait" ["self", "ticks"] (sp_Session_wait K ⟨⟨CS, CT, CG, CE⟩, CR, PL⟩) := ⟨⟨_, _, ⟨a41, i41, k41⟩, ok_Session_wait F41 T r_OutOfRange, b41⟩⟩
  have m_Session_change : MetX P w K mg base (L2.CX P w) 8 CE "change" ["self", "position", "removed", "inserted"] (sp_Session_change K ⟨⟨CS, CT, CG, CE⟩, CR, PL⟩) := ⟨⟨_, _, ⟨a42, i42, k42⟩, ok_Session_change F42 T m_Session_current_text m_are_bytes r_OutOfRange r_TextTooLong m_text_after m_Group_take m_Tree_add_state, b42⟩⟩
  have m_Session_open_group : MetX P w K mg base (L2.CX P w) 8 CE "open_group" ["self"] (sp_Session_open_group K ⟨⟨CS, CT, CG, CE⟩, CR, PL⟩) := ⟨⟨_, _, ⟨a43, i43, k43⟩, ok_Session_open_group F43 T m_Session_refuse_open_group m_Group_init m_Session_current_text, b43⟩⟩
  have m_Session_close_group : MetX P w K mg base (L2.CX P w) 8 CE "close_group" ["self"] (sp_Session_close_group K ⟨⟨CS, CT, CG, CE⟩, CR, PL⟩) := ⟨⟨_, _, ⟨a44, i44, k44⟩, ok_Session_close_group F44 T r_WrongForGroup m_Tree_add_state, b44⟩⟩
  have m_Session_undo : MetX P w K mg base (L2.CX P w) 8 CE "undo" ["self"] (sp_Session_undo K ⟨⟨CS, CT, CG, CE⟩, CR, PL⟩) := ⟨⟨_, _, ⟨a45, i45, k45⟩, ok_Session_undo F45 T m_Session_refuse_open_group m_Tree_current_state r_NowhereToGo m_Session_where, b45⟩⟩
  have m_Session_redo : MetX P w K mg base (L2.CX P w) 8 CE "redo" ["self"] (sp_Session_redo K ⟨⟨CS, CT, CG, CE⟩, CR, PL⟩) := ⟨⟨_, _, ⟨a46, i46, k46⟩, ok_Session_redo F46 T m_Session_refuse_open_group m_Tree_current_state r_NowhereToGo m_State_preferred_child m_Session_where, b46⟩⟩
  have m_Session_go_to : MetX P w K mg base (L2.CX P w) 8 CE "go_to" ["self", "number"] (sp_Session_go_to K ⟨⟨CS, CT, CG, CE⟩, CR, PL⟩) := ⟨⟨_, _, ⟨a47, i47, k47⟩, ok_Session_go_to F47 T m_Session_refuse_open_group m_Tree_find_state m_Session_move, b47⟩⟩
  have m_Session_earlier : MetX P w K mg base (L2.CX P w) 8 CE "earlier" ["self", "n"] (sp_Session_earlier K ⟨⟨CS, CT, CG, CE⟩, CR, PL⟩) := ⟨⟨_, _, ⟨a48, i48, k48⟩, ok_Session_earlier F48 T m_Session_refuse_open_group m_Session_move_in_order, b48⟩⟩
  have m_Session_later : MetX P w K mg base (L2.CX P w) 8 CE "later" ["self", "n"] (sp_Session_later K ⟨⟨CS, CT, CG, CE⟩, CR, PL⟩) := ⟨⟨_, _, ⟨a49, i49, k49⟩, ok_Session_later F49 T m_Session_refuse_open_group m_Session_move_in_order, b49⟩⟩
  have m_Session_ago : MetX P w K mg base (L2.CX P w) 8 CE "ago" ["self", "ticks"] (sp_Session_ago K ⟨⟨CS, CT, CG, CE⟩, CR, PL⟩) := ⟨⟨_, _, ⟨a50, i50, k50⟩, ok_Session_ago F50 T m_Session_refuse_open_group m_Session_move_in_order, b50⟩⟩
  have m_Session_get_text : MetX P w K mg base CX0 8 CE "get_text" ["self"] (sp_Session_get_text K ⟨⟨CS, CT, CG, CE⟩, CR, PL⟩) := ⟨⟨_, _, ⟨a51, i51, k51⟩, ok_Session_get_text F51 T m_counted m_Session_current_text, b51⟩⟩
  have m_Session_state_info : MetX P w K mg base (L2.CX P w) 8 CE "state_info" ["self", "number"] (sp_Session_state_info K ⟨⟨CS, CT, CG, CE⟩, CR, PL⟩) := ⟨⟨_, _, ⟨a52, i52, k52⟩, ok_Session_state_info F52 T m_Tree_find_state m_Tree_way_to m_counted, b52⟩⟩
  have m_Session_leaves : MetX P w K mg base CX0 8 CE "leaves" ["self"] (sp_Session_leaves K ⟨⟨CS, CT, CG, CE⟩, CR, PL⟩) := ⟨⟨_, _, ⟨a53, i53, k53⟩, ok_Session_leaves F53 T m_counted m_Tree_leaves, b53⟩⟩
  have m_Session_path : MetX P w K mg base (L2.CX P w) 8 CE "path" ["self", "from_state", "to_state"] (sp_Session_path K ⟨⟨CS, CT, CG, CE⟩, CR, PL⟩) := ⟨⟨_, _, ⟨a54, i54, k54⟩, ok_Session_path F54 T m_Tree_find_state m_Tree_path m_counted, b54⟩⟩
  have m_Session_origins : MetX P w K mg base (L2.CX P w) 8 CE "origins" ["self"] (sp_Session_origins K ⟨⟨CS, CT, CG, CE⟩, CR, PL⟩) := ⟨⟨_, _, ⟨a55, i55, k55⟩, ok_Session_origins F55 T m_Session_refuse_open_group m_Tree_way_to m_origins_after m_counted, b55⟩⟩
  have m_Session_region_start : MetX P w K mg base (L2.CX P w) 5 CE "region_start" ["self", "number"] (sp_Session_region_start K ⟨⟨CS, CT, CG, CE⟩, CR, PL⟩) := ⟨⟨_, _, ⟨a56, i56, k56⟩, ok_Session_region_start F56 T m_Tree_way_to m_region_start_after, b56⟩⟩
  have m_Session_revert : MetX P w K mg base (L2.CX P w) 8 CE "revert" ["self", "number"] (sp_Session_revert K ⟨⟨CS, CT, CG, CE⟩, CR, PL⟩) := ⟨⟨_, _, ⟨a57, i57, k57⟩, ok_Session_revert F57 T m_Session_refuse_open_group m_Tree_find_state m_Tree_way_to r_NotOnThePath r_SeveralChanges m_Session_region_start m_text_after m_Session_current_text r_RevertedTextTooLong m_Tree_add_state, b57⟩⟩
  have m_Session_set_kept : MetX P w K mg base (L2.CX P w) 8 CE "set_kept" ["self", "number", "kept"] (sp_Session_set_kept K ⟨⟨CS, CT, CG, CE⟩, CR, PL⟩) := ⟨⟨_, _, ⟨a58, i58, k58⟩, ok_Session_set_kept F58 T m_Tree_find_state, b58⟩⟩
  have m_Session_forget : MetX P w K mg base (L2.CX P w) 8 CE "forget" ["self", "limit"] (sp_Session_forget K ⟨⟨CS, CT, CG, CE⟩, CR, PL⟩) := ⟨⟨_, _, ⟨a59, i59, k59⟩, ok_Session_forget F59 T m_Session_refuse_open_group r_OutOfRange m_counted m_Tree_forget, b59⟩⟩
  have m_Session_text_of : MetX P w K mg base (L2.CX P w) 8 CE "text_of" ["self", "number"] (sp_Session_text_of K ⟨⟨CS, CT, CG, CE⟩, CR, PL⟩) := ⟨⟨_, _, ⟨a60, i60, k60⟩, ok_Session_text_of F60 T m_counted m_Tree_find_state, b60⟩⟩
  have m_read_call : DefX P w K mg base CX0 1 "read_call" ["calls", "place"] (sp_read_call K ⟨⟨CS, CT, CG, CE⟩, CR, PL⟩) := ⟨⟨_, _, PySem.W.mg_of X G a61, k61, ok_read_call F61 T , b61⟩⟩
  have m_go : DefX P w K mg base (L2.CX P w) 9 "go" ["session", "call", "plain"] (sp_go K ⟨⟨CS, CT, CG, CE⟩, CR, PL⟩) := ⟨⟨_, _, PySem.W.mg_of X G a62, k62, ok_go F62 T m_Session_undo m_Session_redo m_Session_go_to m_Session_earlier m_Session_later m_Session_ago, b62⟩⟩
  have m_tell : DefX P w K mg base (L2.CX P w) 9 "tell" ["session", "call", "plain"] (sp_tell K ⟨⟨CS, CT, CG, CE⟩, CR, PL⟩) := ⟨⟨_, _, PySem.W.mg_of X G a63, k63, ok_tell F63 T m_Session_get_text m_Session_state_info m_Session_leaves m_Session_path m_Session_origins m_Session_text_of, b63⟩⟩
  have m_carry_out : DefX P w K mg base (L2.CX P w) 10 "carry_out" ["session", "call", "plain", "row"] (sp_carry_out K ⟨⟨CS, CT, CG, CE⟩, CR, PL⟩) := ⟨⟨_, _, PySem.W.mg_of X G a64, k64, ok_carry_out F64 T m_Session_start m_Session_wait m_Session_change m_Session_open_group m_Session_close_group m_Session_revert m_Session_set_kept m_Session_forget m_go m_tell, b64⟩⟩
  have m_answer_to : DefX P w K mg base CX0 11 "answer_to" ["session", "call", "plain", "row"] (sp_answer_to K ⟨⟨CS, CT, CG, CE⟩, CR, PL⟩) := ⟨⟨_, _, PySem.W.mg_of X G a65, k65, ok_answer_to F65 T m_carry_out, b65⟩⟩
  have z : FnOk P w K mg base CX0 12 fa _ ["calls"] (sp_answers K ⟨⟨CS, CT, CG, CE⟩, CR, PL⟩) := ok_answers F66 T m_Session_init m_read_call m_answer_to
  exact z
end UB
namespace Mir
open Ue03 (Change)
def nd (x : Nd) : Ue03.Node := ⟨x.number, x.parent, x.changes, x.time, x.kept == 1⟩
def lastOf (l : List (Nat × Nat)) (n : Nat) : Option Nat := (l.find? fun x => x.1 == n).map fun x => x.2
/-- a tree of the program's is the document's -/
structure TR (t : Tr) (g : Ue03.House) : Prop where
  nodes : g.nodes = t.nodes.map nd
  now : g.now = t.current
  given : g.given = t.next
  base : g.base = (t.get t.root).text
  last : ∀ x ∈ t.nodes, lastOf g.last x.number = x.visited
  old : ∀ p ∈ g.last, p.1 < g.given
section
variable {B : Nat} {t : Tr} {g : Ue03.House} {n m : Nat} {x y : Nd}
theorem TR.find (r : TR t g) : Ue03.find g n = (t.find n).map nd := by
  unfold Ue03.find
  rw [r.nodes, List.find?_map]
  rfl
theorem TR.findNone (r : TR t g) : (Ue03.find g n).isNone = (t.find n).isNone := by
  rw [r.find]
  cases t.find n <;> rfl
theorem nodup_len : ∀ {l m : List Nat}, l.Nodup → (∀ x ∈ l, x ∈ m) → l.length ≤ m.length
  | [], _, _, _ => Nat.zero_le _
  | a :: l, m, h, s => by
    rw [List.nodup_cons] at h
    have ha := s a List.mem_cons_self
    have h2 := nodup_len (l := l) (m := m.erase a) h.2 (fun x hx => (List.mem_erase_of_ne (fun e : x = a => h.1 (by rw [← e]; exact hx))).mpr (s x (List.mem_cons_of_mem _ hx)))
    rw [List.length_erase_of_mem ha] at h2
    have := List.length_pos_of_mem ha
    simp only [List.length_cons]
    omega
theorem way_len2 (w : t.WF B) (h : (t.find n).isSome = true) : (t.way n).length ≤ t.nodes.length := by
  rw [← List.length_map (f := fun x : Nd => x.number) (as := t.nodes)]
  refine nodup_len ((way_sorted w n h).imp fun z => Nat.ne_of_lt z) fun m hm => ?_
  have h1 := (way_mem w n h m hm).1
  exact List.mem_map.mpr ⟨_, get_mem h1, get_num h1⟩
theorem TR.up (r : TR t g) (w : t.WF B) : ∀ n, (t.find n).isSome = true → ∀ f l, (t.way n).length ≤ f → Ue03.upFrom f g n l = (t.way n).map (fun m => nd (t.get m)) ++ l := by
  refine way_ind w (fun n h e f l hf => ?_) fun n p h e hp lt ih f l hf => ?_
  · rw [way_none w e] at hf ⊢
    obtain ⟨f, rfl⟩ : ∃ f', f = f' + 1 := ⟨f - 1, by simp at hf; omega⟩
    unfold Ue03.upFrom
    rw [r.find, find_get h]
    have e' : (nd (t.get n)).parent = none := e
    simp only [Option.map_some, e']
    rfl
  · rw [way_some w h e] at hf ⊢
    rw [List.length_append, List.length_singleton] at hf
    obtain ⟨f, rfl⟩ : ∃ f', f = f' + 1 := ⟨f - 1, by omega⟩
    unfold Ue03.upFrom
    rw [r.find, find_get h]
    have e' : (nd (t.get n)).parent = some p := e
    simp only [Option.map_some, e']
    rw [ih f _ (by omega), List.map_append, List.append_assoc]
    rfl
theorem TR.path (r : TR t g) (w : t.WF B) (h : (t.find n).isSome = true) : Ue03.path g n = (t.way n).map fun m => nd (t.get m) := by
  unfold Ue03.path
  have := way_len2 w h
  rw [r.up w n h _ _ (by rw [r.nodes, List.length_map]; omega), List.append_nil]
theorem TR.pathNums (r : TR t g) (w : t.WF B) (h : (t.find n).isSome = true) : ((Ue03.path g n).map fun x => x.number) = t.way n := by
  rw [r.path w h, List.map_map]
  conv => rhs; rw [← List.map_id (t.way n)]
  apply List.map_congr_left
  intro m hm
  show (nd (t.get m)).number = m
  exact get_num (way_mem w n h m hm).1
theorem TR.changes (r : TR t g) (w : t.WF B) (h : (t.find n).isSome = true) : (Ue03.changesOf ((Ue03.path g n).drop 1)).foldl Ue03.changed g.base = (t.get n).text := by
  revert h
  revert n
  refine @way_ind _ _ w (fun n => (Ue03.changesOf ((Ue03.path g n).drop 1)).foldl Ue03.changed g.base = (t.get n).text) (fun n h e => ?_) fun n p h e hp lt ih => ?_
  · rw [r.path w h, way_none w e]
    have := w.rootNode.2.2.2 _ (get_mem h) e
    rw [get_num h] at this
    rw [this]
    exact r.base
  · obtain ⟨q, hq⟩ := way_root w p hp
    have e1 := ih
    rw [r.path w hp, hq] at e1
    rw [r.path w h, way_some w h e, hq]
    have e2 : (((t.root :: q) ++ [n]).map fun m => nd (t.get m)).drop 1 = (((t.root :: q).map fun m => nd (t.get m)).drop 1) ++ [nd (t.get n)] := by
      rw [List.map_append]
      rfl
    rw [e2]
    unfold Ue03.changesOf at e1 ⊢
    rw [List.flatMap_append, List.foldl_append, e1]
    have e3 : (([nd (t.get n)] : List Ue03.Node).flatMap fun x => x.changes) = (t.get n).changes := by
      show (t.get n).changes ++ [] = _
      rw [List.append_nil]
    rw [e3]
    exact (w.text _ (get_mem h) _ (get_mem hp) (by rw [get_num hp]; exact e)).symm
theorem TR.textAt (r : TR t g) (w : t.WF B) (h : (t.find n).isSome = true) : Ue03.textAt g n = (t.get n).text := r.changes w h
theorem TR.children (r : TR t g) (w : t.WF B) (hx : x ∈ t.nodes) : Ue03.children g x.number = x.children := by
  unfold Ue03.children
  rw [r.nodes, List.filter_map, List.map_map, w.kids _ hx]
  rfl
theorem TR.children' (r : TR t g) (w : t.WF B) (h : (t.find n).isSome = true) : Ue03.children g n = (t.get n).children := by
  have := r.children w (get_mem h)
  rw [get_num h] at this
  exact this
theorem last_or : ∀ {l : List Nat}, l ≠ [] → l.getLast? = some (l.getLastD 0)
  | [], h => absurd rfl h
  | [a], _ => rfl
  | a :: b :: q, _ => last_or (l := b :: q) (List.cons_ne_nil _ _)
theorem TR.forth (r : TR t g) (w : t.WF B) (h : (t.find n).isSome = true) : Ue03.forth g n = if (t.get n).children = [] then none else some (t.get n).liked := by
  unfold Ue03.forth
  simp only
  rw [r.children' w h]
  have el := r.last _ (get_mem h)
  rw [get_num h] at el
  unfold lastOf at el
  unfold Nd.liked
  generalize (t.get n).children = c at *
  cases q : (g.last.find? fun x => x.1 == n) with
  | none =>
    rw [q] at el
    have el : none = (t.get n).visited := el
    rw [← el]
    dsimp only
    split
    · rename_i hc
      rw [hc]
      rfl
    · rename_i hc
      exact last_or hc
  | some p =>
    rw [q] at el
    have el : some p.2 = (t.get n).visited := el
    rw [← el]
    dsimp only
    by_cases hm : p.2 ∈ c
    · rw [if_pos (by simpa using hm), if_neg (fun z => by rw [z] at hm; cases hm), if_pos hm]
    · rw [if_neg (by simpa using hm), if_neg hm]
      split
      · rename_i hc
        rw [hc]
        rfl
      · rename_i hc
        exact last_or hc
theorem fork_eq : ∀ (l m : List Nat) (t : Nat), Ue03.fork t l m = ((t :: l).getD (both l m) 0, l.drop (both l m), m.drop (both l m))
  | [], m, t => by
    unfold Ue03.fork both
    rfl
  | a :: l, [], t => by
    unfold Ue03.fork both
    rfl
  | a :: l, b :: m, t => by
    unfold Ue03.fork both
    by_cases c : a = b
    · rw [if_pos c, if_pos c, fork_eq l m a]
      rfl
    · rw [if_neg c, if_neg c]
      rfl
theorem TR.fork (r : TR t g) (w : t.WF B) (h : (t.find n).isSome = true) (hm : (t.find m).isSome = true) :
    Ue03.fork 0 ((Ue03.path g n).map fun x => x.number) ((Ue03.path g m).map fun x => x.number) = (t.pathTurn n m, (t.pathUp n m).reverse, t.pathDown n m) := by
  rw [r.pathNums w h, r.pathNums w hm, fork_eq]
  have := shared_pos w h hm
  unfold Tr.pathTurn Tr.pathUp Tr.pathDown Tr.shared at *
  obtain ⟨k, e⟩ : ∃ k, both (t.way n) (t.way m) = k + 1 := ⟨both (t.way n) (t.way m) - 1, by omega⟩
  rw [List.reverse_reverse, e]
  rfl
/-! ### trees that keep all but small things -/
theorem Tr.WF.mono (w : t.WF B) : t.WF (B + 1) := ⟨w.sorted, w.below, Nat.le_succ_of_le w.next, w.par, w.kids, w.cur, w.root, w.text, w.short, fun x hx => ⟨Nat.le_succ_of_le (w.few x hx).1, (w.few x hx).2⟩, w.flag⟩
theorem Tr.WF.map {f : Nd → Nd} {c : Nat} (w : t.WF B) (hf : ∀ x ∈ t.nodes, (f x).number = x.number ∧ (f x).parent = x.parent ∧ (f x).changes = x.changes ∧ (f x).text = x.text ∧ (f x).children = x.children ∧ (f x).kept ≤ 1)
    (hc : (t.find c).isSome = true) : Tr.WF B ⟨t.nodes.map f, c, t.next⟩ := by
  have mem : ∀ z ∈ t.nodes.map f, ∃ x ∈ t.nodes, z = f x := fun z hz => by
    obtain ⟨x, hx, e⟩ := List.mem_map.mp hz
    exact ⟨x, hx, e.symm⟩
  have numsE : (t.nodes.map f).map (fun x => x.number) = t.nodes.map fun x => x.number := by
    rw [List.map_map]
    exact List.map_congr_left fun x hx => (hf x hx).1
  refine ⟨by show ((t.nodes.map f).map fun x => x.number).Pairwise (· < ·); rw [numsE]; exact w.sorted, ?_, w.next, ?_, ?_, ?_, ?_, ?_, ?_, ?_, ?_⟩
  · intro z hz
    obtain ⟨x, hx, rfl⟩ := mem z hz
    rw [(hf x hx).1]
    exact w.below x hx
  · intro z hz p e
    obtain ⟨x, hx, rfl⟩ := mem z hz
    rw [(hf x hx).1]
    rw [(hf x hx).2.1] at e
    obtain ⟨h1, y, hy, h2⟩ := w.par x hx p e
    exact ⟨h1, f y, List.mem_map.mpr ⟨y, hy, rfl⟩, by rw [(hf y hy).1]; exact h2⟩
  · intro z hz
    obtain ⟨x, hx, rfl⟩ := mem z hz
    rw [(hf x hx).1, (hf x hx).2.2.2.2.1, w.kids x hx]
    show _ = ((t.nodes.map f).filter fun y => y.parent == some x.number).map fun y => y.number
    rw [List.filter_map, List.map_map]
    have e1 : t.nodes.filter ((fun y : Nd => y.parent == some x.number) ∘ f) = t.nodes.filter fun y => y.parent == some x.number := by
      apply List.filter_congr
      intro y hy
      show ((f y).parent == some x.number) = _
      rw [(hf y hy).2.1]
    rw [e1]
    apply List.map_congr_left
    intro y hy
    exact (hf y (List.mem_filter.mp hy).1).1.symm
  · obtain ⟨x, hx, e⟩ := find_isSome.mp hc
    exact ⟨f x, List.mem_map.mpr ⟨x, hx, rfl⟩, by rw [(hf x hx).1]; exact e⟩
  · obtain ⟨x, r, e, h1, h2, h3⟩ := w.root
    have hx : x ∈ t.nodes := by rw [e]; exact List.mem_cons_self
    have hr : ∀ y ∈ r, y ∈ t.nodes := fun y hy => by rw [e]; exact List.mem_cons_of_mem _ hy
    refine ⟨f x, r.map f, by show t.nodes.map f = _; rw [e]; rfl, by rw [(hf x hx).2.1]; exact h1, by rw [(hf x hx).2.2.1]; exact h2, fun z hz => ?_⟩
    obtain ⟨y, hy, rfl⟩ := List.mem_map.mp hz
    rw [(hf y (hr y hy)).2.1, (hf y (hr y hy)).2.2.1]
    exact h3 y hy
  · intro z hz z2 hz2 e
    obtain ⟨x, hx, rfl⟩ := mem z hz
    obtain ⟨y, hy, rfl⟩ := mem z2 hz2
    rw [(hf x hx).2.1, (hf y hy).1] at e
    rw [(hf x hx).2.2.2.1, (hf x hx).2.2.1, (hf y hy).2.2.2.1]
    exact w.text x hx y hy e
  · intro z hz
    obtain ⟨x, hx, rfl⟩ := mem z hz
    rw [(hf x hx).2.2.2.1]
    exact w.short x hx
  · intro z hz
    obtain ⟨x, hx, rfl⟩ := mem z hz
    rw [(hf x hx).2.2.1]
    exact w.few x hx
  · intro z hz
    obtain ⟨x, hx, rfl⟩ := mem z hz
    exact (hf x hx).2.2.2.2.2
theorem Tr.WF.see (w : t.WF B) (a b : Nat) : (t.see a b).WF B := by
  refine w.map (f := fun x => if x.number = a then { x with visited := some b } else x) (fun x hx => ?_) w.here
  have := w.flag x hx
  split <;> exact ⟨rfl, rfl, rfl, rfl, rfl, this⟩
theorem Tr.WF.sees : ∀ (l : List (Nat × Nat)) {t : Tr}, t.WF B → (t.sees l).WF B
  | [], _, w => w
  | p :: l, _, w => Tr.WF.sees l (w.see p.1 p.2)
theorem Tr.WF.goTo (w : t.WF B) (h : (t.find n).isSome = true) : Tr.WF B { t with current := n } := by
  have := w.map (f := id) (fun x hx => ⟨rfl, rfl, rfl, rfl, rfl, w.flag x hx⟩) h
  rw [List.map_id] at this
  exact this
theorem Tr.WF.visit (w : t.WF B) (h : (t.find n).isSome = true) : (t.visit n).WF B := by
  have w2 := Tr.WF.sees ((t.way n).zip ((t.way n).drop 1)) w
  exact w2.goTo (by rw [(sees_find _).1]; exact h)
/-! ### what was visited last -/
theorem lastOf_set {l : List (Nat × Nat)} {a b : Nat} : lastOf (Ue03.setLast l a b) n = if n = a then some b else lastOf l n := by
  unfold lastOf Ue03.setLast
  rw [List.find?_cons]
  by_cases c : n = a
  · subst c
    rw [if_pos rfl]
    simp
  · rw [if_neg c]
    have e1 : (a == n) = false := by simpa using fun z => c z.symm
    simp only [e1]
    congr 1
    induction l with
    | nil => rfl
    | cons p l ih =>
      by_cases d : p.1 = a
      · rw [List.filter_cons_of_neg (by simpa using d), ih, List.find?_cons]
        have : (p.1 == n) = false := by rw [d]; exact e1
        rw [this]
      · rw [List.filter_cons_of_pos (by simpa using d), List.find?_cons, List.find?_cons, ih]
theorem root_map {f : Nd → Nd} {c k : Nat} (hf : ∀ x, (f x).number = x.number) : Tr.root ⟨t.nodes.map f, c, k⟩ = t.root := by
  unfold Tr.root
  show (((t.nodes.map f).map fun x => x.number).headD 0) = _
  rw [List.map_map]
  have : ((fun x : Nd => x.number) ∘ f) = fun x => x.number := funext hf
  rw [this]
theorem TR.see (r : TR t g) {a b : Nat} (ha : a < g.given) : TR (t.see a b) { g with last := Ue03.setLast g.last a b } := by
  refine ⟨?_, r.now, r.given, ?_, ?_, ?_⟩
  · show g.nodes = (t.nodes.map fun x => if x.number = a then { x with visited := some b } else x).map nd
    rw [r.nodes, List.map_map]
    apply List.map_congr_left
    intro x _
    show nd x = nd (if x.number = a then { x with visited := some b } else x)
    split <;> rfl
  · rw [see_get.1]
    have : (t.see a b).root = t.root := root_map fun x => by split <;> rfl
    rw [this]
    exact r.base
  · intro z hz
    obtain ⟨x, hx, rfl⟩ := List.mem_map.mp hz
    rw [lastOf_set]
    by_cases c : x.number = a
    · rw [if_pos c]
      exact if_pos c
    · rw [if_neg c]
      exact (if_neg c).trans (r.last x hx)
  · intro p hp
    rcases List.mem_cons.mp hp with rfl | hp
    · exact ha
    · exact r.old p (List.mem_filter.mp hp).1
theorem TR.sees : ∀ (l : List (Nat × Nat)) {t : Tr} {g : Ue03.House}, TR t g → (∀ p ∈ l, p.1 < g.given) → TR (t.sees l) { g with last := l.foldl (fun m x => Ue03.setLast m x.1 x.2) g.last }
  | [], _, _, r, _ => r
  | p :: l, _, _, r, h => TR.sees l (r.see (b := p.2) (h p List.mem_cons_self)) fun q hq => h q (List.mem_cons_of_mem _ hq)
theorem TR.goTo (r : TR t g) : TR { t with current := n } { g with now := n } := ⟨r.nodes, rfl, r.given, r.base, r.last, r.old⟩
theorem TR.given_lt (r : TR t g) (w : t.WF B) (h : (t.find n).isSome = true) : n < g.given := by
  have := w.below _ (get_mem h)
  rw [get_num h] at this
  rw [r.given]
  exact this
theorem TR.visit (r : TR t g) (w : t.WF B) (h : (t.find n).isSome = true) : TR (t.visit n) (Ue03.goes g n) := by
  unfold Ue03.goes Tr.visit
  simp only
  rw [r.pathNums w h]
  refine TR.goTo (TR.sees _ r fun p hp => ?_)
  exact r.given_lt w (way_mem w n h p.1 (List.of_mem_zip hp).1).1
end
end Mir
namespace Mir
open Ue03 (Change)
structure SR (s : Se) (g : Ue03.House) : Prop where
  tree : TR s.tree g
  clock : g.clock = s.clock
  group : g.group = s.group.map fun p => p.1
  gtext : ∀ p, s.group = some p → p.2 = p.1.foldl Ue03.changed (s.tree.get s.tree.current).text
/-- one call, here and there -/
structure Sim (B : Nat) (s : Se) (g : Ue03.House) (r : Res) (y : Ue03.House × List Int) : Prop where
  rel : SR (turn s r).1 y.1
  wf : (turn s r).1.WF (B + 1)
  out : (turn s r).2 = y.2
section
variable {B : Nat} {s : Se} {g : Ue03.House} {n m : Nat} {t : Tr}
theorem Se.WF.mono (w : s.WF B) : s.WF (B + 1) := ⟨w.tree.mono, fun g h => ⟨(w.grp g h).1, Nat.le_succ_of_le (w.grp g h).2.1, (w.grp g h).2.2⟩⟩
theorem Sim.err (r : SR s g) (w : s.WF B) (c : Int) : Sim B s g (.error c) (g, [c]) := ⟨r, w.mono, rfl⟩
theorem Sim.alone (r : SR s g) (w : s.WF B) {x : Res} {y : Ue03.House × List Int} (h : s.group = none → Sim B s g x y) : Sim B s g (s.alone x) (Ue03.alone g y) := by
  unfold Se.alone Ue03.alone
  have e : g.group.isSome = s.group.isSome := by
    rw [r.group]
    cases s.group <;> rfl
  rw [e]
  cases q : s.group with
  | none => exact h q
  | some p => exact Sim.err r w (-9)
theorem SR.text (r : SR s g) (w : s.WF B) : Ue03.textNow g = s.text := by
  unfold Ue03.textNow Se.text
  rw [r.tree.now, r.tree.textAt w.tree w.tree.here, r.group]
  cases q : s.group with
  | none => rfl
  | some p => exact (r.gtext p q).symm
theorem ints_map (l : List Nat) : Ue03.ints l = intL l := rfl
theorem counted_ints (l : List Nat) : intL (counted l) = (l.length : Int) :: Ue03.ints l := rfl
/-! ### a new state -/
theorem add_nodes {time : Nat} {l : List Change} {x : List Nat} (w : t.WF B) : (t.addState time l x).nodes = (t.nodes.map fun y => if y.number = t.current then { y with children := y.children ++ [t.next], visited := some t.next } else y) ++ [⟨t.next, some t.current, time, l, x, 0, [], none⟩] := by
  have hc : t.current < t.next := by
    obtain ⟨y, hy, e⟩ := w.cur
    rw [← e]
    exact w.below y hy
  show List.map (fun y : Nd => if y.number = t.current then { y with visited := some t.next } else y) (List.map (fun y : Nd => if y.number = t.current then { y with children := y.children ++ [t.next] } else y) (t.nodes ++ [(⟨t.next, some t.current, time, l, x, 0, [], none⟩ : Nd)])) = _
  rw [List.map_map, List.map_append]
  congr 1
  · apply List.map_congr_left
    intro y _
    by_cases c : y.number = t.current <;> simp [c]
  · have h1 : ¬ t.next = t.current := by omega
    show [(if (if t.next = t.current then (_ : Nd) else ⟨t.next, some t.current, time, l, x, 0, [], none⟩).number = t.current then _ else _)] = _
    rw [if_neg h1]
    congr 1
    exact if_neg h1
theorem Tr.WF.addState {time : Nat} {l : List Change} {x : List Nat} (w : t.WF B) (hl : l ≠ []) (hB : l.length ≤ B + 1) (hin : ∀ c ∈ l, c.in_.length ≤ 350) (hx : x = l.foldl Ue03.changed (t.get t.current).text) (h3 : x.length ≤ 300) : (t.addState time l x).WF (B + 1) := by
  have hc : t.current < t.next := by
    obtain ⟨y, hy, e⟩ := w.cur
    rw [← e]
    exact w.below y hy
  have en := add_nodes (time := time) (l := l) (x := x) w
  have ec : (t.addState time l x).current = t.next := rfl
  have ex : (t.addState time l x).next = t.next + 1 := rfl
  generalize t.addState time l x = t' at *
  obtain ⟨nodes', cur', next'⟩ := t'
  dsimp only at en ec ex
  subst en ec ex
  let f : Nd → Nd := fun y => if y.number = t.current then { y with children := y.children ++ [t.next], visited := some t.next } else y
  have hf : ∀ y, (f y).number = y.number ∧ (f y).parent = y.parent ∧ (f y).changes = y.changes ∧ (f y).text = y.text ∧ (f y).kept = y.kept := by
    intro y
    show (if y.number = t.current then _ else y : Nd).number = _ ∧ (if y.number = t.current then _ else y : Nd).parent = _ ∧ (if y.number = t.current then _ else y : Nd).changes = _ ∧ (if y.number = t.current then _ else y : Nd).text = _ ∧ (if y.number = t.current then _ else y : Nd).kept = _
    split <;> exact ⟨rfl, rfl, rfl, rfl, rfl⟩
  let new : Nd := ⟨t.next, some t.current, time, l, x, 0, [], none⟩
  show Tr.WF (B + 1) ⟨t.nodes.map f ++ [new], t.next, t.next + 1⟩
  have mem : ∀ z ∈ t.nodes.map f ++ [new], (∃ y ∈ t.nodes, z = f y) ∨ z = new := by
    intro z hz
    rcases List.mem_append.mp hz with hz | hz
    · obtain ⟨y, hy, e⟩ := List.mem_map.mp hz
      exact .inl ⟨y, hy, e.symm⟩
    · exact .inr (List.mem_singleton.mp hz)
  have back : ∀ y ∈ t.nodes, f y ∈ t.nodes.map f ++ [new] := fun y hy => List.mem_append_left _ (List.mem_map.mpr ⟨y, hy, rfl⟩)
  have numsE : (t.nodes.map f).map (fun x => x.number) = t.nodes.map fun x => x.number := by
    rw [List.map_map]
    exact List.map_congr_left fun x hx => (hf x).1
  have kidsE : ∀ k, ((t.nodes.map f).filter fun y => y.parent == some k).map (fun y => y.number) = (t.nodes.filter fun y => y.parent == some k).map fun y => y.number := by
    intro k
    rw [List.filter_map, List.map_map]
    have e1 : t.nodes.filter ((fun y : Nd => y.parent == some k) ∘ f) = t.nodes.filter fun y => y.parent == some k := by
      apply List.filter_congr
      intro y hy
      show ((f y).parent == some k) = _
      rw [(hf y).2.1]
    rw [e1]
    exact List.map_congr_left fun y hy => (hf y).1
  have curNode := w.here
  refine ⟨?_, ?_, ?_, ?_, ?_, ?_, ?_, ?_, ?_, ?_, ?_⟩
  · show ((t.nodes.map f ++ [new]).map fun x => x.number).Pairwise (· < ·)
    rw [List.map_append, numsE, List.pairwise_append]
    refine ⟨w.sorted, List.pairwise_singleton _ _, fun a ha b hb => ?_⟩
    obtain ⟨y, hy, rfl⟩ := List.mem_map.mp ha
    obtain rfl := List.mem_singleton.mp hb
    exact w.below y hy
  · intro z hz
    show z.number < t.next + 1
    rcases mem z hz with ⟨y, hy, rfl⟩ | rfl
    · rw [(hf y).1]
      have := w.below y hy
      omega
    · exact Nat.lt_succ_self _
  · show t.next + 1 ≤ B + 1
    have := w.next
    omega
  · intro z hz p e
    rcases mem z hz with ⟨y, hy, rfl⟩ | rfl
    · rw [(hf y).1]
      rw [(hf y).2.1] at e
      obtain ⟨h1, u, hu, h2⟩ := w.par y hy p e
      exact ⟨h1, f u, back u hu, by rw [(hf u).1]; exact h2⟩
    · cases e
      exact ⟨hc, f (t.get t.current), back _ (get_mem curNode), by rw [(hf _).1]; exact get_num curNode⟩
  · intro z hz
    show z.children = ((t.nodes.map f ++ [new]).filter fun y => y.parent == some z.number).map fun y => y.number
    rw [List.filter_append, List.map_append, kidsE]
    rcases mem z hz with ⟨y, hy, rfl⟩ | rfl
    · rw [(hf y).1, ← w.kids y hy]
      by_cases c : y.number = t.current
      · have e1 : f y = { y with children := y.children ++ [t.next], visited := some t.next } := if_pos c
        rw [e1, c]
        have : ([new].filter fun y : Nd => y.parent == some t.current) = [new] := by simp [new]
        rw [this]
        rfl
      · have e1 : f y = y := if_neg c
        rw [e1]
        have : ([new].filter fun u : Nd => u.parent == some y.number) = [] := by
          rw [List.filter_cons_of_neg (by simpa [new] using fun z => c z.symm)]
          rfl
        rw [this, List.map_nil, List.append_nil]
    · have e1 : (t.nodes.filter fun y => y.parent == some t.next) = [] := by
        rw [List.filter_eq_nil_iff]
        intro y hy
        have h1 : y.parent ≠ some t.next := fun e => by
          obtain ⟨h1, u, hu, h2⟩ := w.par y hy _ e
          have := w.below u hu
          omega
        simpa using h1
      have e2 : ([new].filter fun y : Nd => y.parent == some t.next) = [] := by
        have : ¬ t.current = t.next := by omega
        rw [List.filter_cons_of_neg (by simpa [new] using this)]
        rfl
      show [] = _
      have e3 : new.number = t.next := rfl
      rw [e3, e1, e2]
      rfl
  · exact ⟨new, List.mem_append_right _ (List.mem_singleton.mpr rfl), rfl⟩
  · obtain ⟨a, r, e, h1, h2, h3⟩ := w.root
    refine ⟨f a, r.map f ++ [new], by show t.nodes.map f ++ [new] = _; rw [e]; rfl, by rw [(hf a).2.1]; exact h1, by rw [(hf a).2.2.1]; exact h2, fun z hz => ?_⟩
    rcases List.mem_append.mp hz with hz | hz
    · obtain ⟨y, hy, rfl⟩ := List.mem_map.mp hz
      rw [(hf y).2.1, (hf y).2.2.1]
      exact h3 y hy
    · obtain rfl := List.mem_singleton.mp hz
      exact ⟨(by intro z; cases z), hl⟩
  · intro z hz z2 hz2 e
    rcases mem z hz with ⟨y, hy, rfl⟩ | rfl
    · rw [(hf y).2.1] at e
      rw [(hf y).2.2.2.1, (hf y).2.2.1]
      rcases mem z2 hz2 with ⟨u, hu, rfl⟩ | rfl
      · rw [(hf u).1] at e
        rw [(hf u).2.2.2.1]
        exact w.text y hy u hu e
      · obtain ⟨h1, u, hu, h2⟩ := w.par y hy _ e
        have := w.below u hu
        have e3 : new.number = t.next := rfl
        omega
    · have e : some t.current = some z2.number := e
      have e := Option.some.inj e
      show x = l.foldl Ue03.changed z2.text
      rcases mem z2 hz2 with ⟨u, hu, rfl⟩ | rfl
      · rw [(hf u).1] at e
        rw [(hf u).2.2.2.1, hx, get_of w hu e.symm]
      · have e3 : new.number = t.next := rfl
        omega
  · intro z hz
    rcases mem z hz with ⟨y, hy, rfl⟩ | rfl
    · rw [(hf y).2.2.2.1]
      exact w.short y hy
    · exact h3
  · intro z hz
    rcases mem z hz with ⟨y, hy, rfl⟩ | rfl
    · rw [(hf y).2.2.1]
      exact ⟨Nat.le_succ_of_le (w.few y hy).1, (w.few y hy).2⟩
    · exact ⟨hB, hin⟩
  · intro z hz
    rcases mem z hz with ⟨y, hy, rfl⟩ | rfl
    · rw [(hf y).2.2.2.2]
      exact w.flag y hy
    · exact Nat.zero_le _
theorem TR.addState {l : List Change} {x : List Nat} (r : TR t g) (w : t.WF B) : TR (t.addState g.clock l x) (Ue03.makes g l) := by
  have hc : t.current < t.next := by
    obtain ⟨y, hy, e⟩ := w.cur
    rw [← e]
    exact w.below y hy
  have en := add_nodes (time := g.clock) (l := l) (x := x) w
  have hnd : ∀ y : Nd, nd (if y.number = t.current then { y with children := y.children ++ [t.next], visited := some t.next } else y) = nd y := by
    intro y
    split <;> rfl
  have hroot : (t.addState g.clock l x).root = t.root := by
    obtain ⟨a, q, e, _⟩ := w.root
    unfold Tr.root
    rw [en, e]
    show (if a.number = t.current then _ else a : Nd).number = a.number
    split <;> rfl
  refine ⟨?_, r.given, ?_, ?_, ?_, ?_⟩
  · rw [en, List.map_append, List.map_map]
    show g.nodes ++ [(⟨g.given, some g.now, l, g.clock, false⟩ : Ue03.Node)] = _
    rw [r.given, r.now, r.nodes]
    congr 1
    exact List.map_congr_left fun y _ => (hnd y).symm
  · show g.given + 1 = t.next + 1
    rw [r.given]
  · show g.base = _
    rw [hroot, r.base]
    obtain ⟨h1, _⟩ := w.rootNode
    have e1 : (t.addState g.clock l x).find t.root = some (if (t.get t.root).number = t.current then { (t.get t.root) with children := (t.get t.root).children ++ [t.next], visited := some t.next } else (t.get t.root)) := by
      unfold Tr.find
      rw [en, List.find?_append, List.find?_map]
      have e : ((fun y : Nd => y.number == t.root) ∘ fun y => if y.number = t.current then { y with children := y.children ++ [t.next], visited := some t.next } else y) = fun y => y.number == t.root := by
        funext y
        show ((if y.number = t.current then _ else y : Nd).number == t.root) = _
        split <;> rfl
      rw [e]
      have := find_get h1
      unfold Tr.find at this
      rw [this]
      rfl
    rw [get_find e1]
    split <;> rfl
  · intro z hz
    show lastOf (Ue03.setLast g.last g.now g.given) z.number = z.visited
    rw [lastOf_set, r.now, r.given]
    rw [en] at hz
    rcases List.mem_append.mp hz with hz | hz
    · obtain ⟨y, hy, rfl⟩ := List.mem_map.mp hz
      by_cases c : y.number = t.current
      · have e1 : (if y.number = t.current then ({ y with children := y.children ++ [t.next], visited := some t.next } : Nd) else y) = { y with children := y.children ++ [t.next], visited := some t.next } := if_pos c
        simp only [e1]
        exact if_pos c
      · have e1 : (if y.number = t.current then ({ y with children := y.children ++ [t.next], visited := some t.next } : Nd) else y) = y := if_neg c
        simp only [e1]
        rw [if_neg c]
        exact r.last y hy
    · obtain rfl := List.mem_singleton.mp hz
      have h1 : ¬ t.next = t.current := by omega
      show (if t.next = t.current then _ else _) = none
      rw [if_neg h1]
      unfold lastOf
      rw [Option.map_eq_none_iff, List.find?_eq_none]
      intro p hp
      have := r.old p hp
      rw [r.given] at this
      have h2 : ¬ p.1 = t.next := by omega
      simpa using h2
  · intro p hp
    show p.1 < g.given + 1
    rcases List.mem_cons.mp hp with rfl | hp
    · show g.now < g.given + 1
      rw [r.now, r.given]
      omega
    · have := r.old p (List.mem_filter.mp hp).1
      omega
/-! ### the calls that stand -/
theorem SR.same {l : List (Nat × Nat)} {t' : Tr} {g' : Ue03.House} (r : SR s g) (h : TR t' g') (h1 : g'.clock = g.clock) (h2 : g'.group = g.group) (h3 : s.group = none) : SR { s with tree := t' } g' :=
  ⟨h, by rw [h1]; exact r.clock, by rw [h2]; exact r.group, fun p e => by rw [h3] at e; cases e⟩
theorem Sim.move (r : SR s g) (w : s.WF B) (hg : s.group = none) (h : (s.tree.find n).isSome = true) : SR (s.move n).1 (Ue03.arrives g n).1 ∧ (s.move n).1.WF B ∧ intL (s.move n).2 = (Ue03.arrives g n).2 := by
  refine ⟨?_, ⟨w.tree.visit h, w.grp⟩, ?_⟩
  · exact SR.same (l := []) r (r.tree.visit w.tree h) rfl rfl hg
  · unfold Ue03.arrives Se.move Ue03.backSteps Ue03.forthSteps
    simp only
    rw [r.tree.now, r.tree.fork w.tree w.tree.here h, r.tree.textAt w.tree h]
    simp only [List.length_reverse]
    rfl
theorem Sim.of_ok {x : Se × List Nat} {y : Ue03.House × List Int} (h1 : SR x.1 y.1) (h2 : x.1.WF (B + 1)) (h3 : intL x.2 = y.2) : Sim B s g (.ok x) y := ⟨h1, h2, h3⟩
theorem Sim.inOrder (r : SR s g) (w : s.WF B) (hg : s.group = none) {l : List Ue03.Node} {k : List Nat} (hl : l.map (fun x => x.number) = k) (hk : ∀ m ∈ k, (s.tree.find m).isSome = true) :
    Sim B s g (s.inOrder k n) (if n = 0 then (g, [-1]) else match l[n - 1]? with
    | none => (g, [-7])
    | some x => ((Ue03.arrives g x.number).1, (x.number : Int) :: (Ue03.arrives g x.number).2)) := by
  unfold Se.inOrder
  have hlen : l.length = k.length := by rw [← hl, List.length_map]
  by_cases c : n = 0
  · rw [if_pos c, if_pos c]
    exact Sim.err r w _
  rw [if_neg c, if_neg c]
  by_cases c2 : k.length < n
  · rw [if_pos c2, List.getElem?_eq_none (by omega)]
    exact Sim.err r w _
  rw [if_neg c2]
  have h1 : n - 1 < l.length := by omega
  have h2 : n - 1 < k.length := by omega
  rw [List.getElem?_eq_getElem h1]
  have e1 : k.getD (n - 1) 0 = l[n - 1].number := by
    rw [List.getD_eq_getElem?_getD, List.getElem?_eq_getElem h2]
    subst hl
    simp
  have hm : k.getD (n - 1) 0 ∈ k := by
    rw [List.getD_eq_getElem?_getD, List.getElem?_eq_getElem h2]
    exact List.getElem_mem _
  have hf := hk _ hm
  rw [e1] at hf ⊢
  obtain ⟨a, b, d⟩ := Sim.move r w hg hf
  refine Sim.of_ok a b.mono ?_
  show (l[n - 1].number : Int) :: intL (s.move l[n - 1].number).2 = _
  rw [d]
theorem found_num {x : Nd} (hx : x ∈ t.nodes) : (t.find x.number).isSome = true := find_isSome.mpr ⟨x, hx, rfl⟩
theorem nd_filter {l : List Nd} {f : Ue03.Node → Bool} {h : Nd → Bool} (e : ∀ x ∈ l, f (nd x) = h x) : (l.map nd).filter f = (l.filter h).map nd := by
  rw [List.filter_map]
  congr 1
  exact List.filter_congr e
theorem nd_nums {l : List Nd} : (l.map nd).map (fun x => x.number) = l.map fun x => x.number := by
  rw [List.map_map]
  rfl
theorem sim_earlier (r : SR s g) (w : s.WF B) : Sim B s g (doEarlier s n) (Ue03.step g (.earlier n)) := by
  refine Sim.alone r w fun hg => Sim.inOrder r w hg ?_ ?_
  · rw [List.map_reverse, r.tree.nodes, nd_filter (h := fun x => decide (x.number < s.tree.current)) (fun x _ => by rw [r.tree.now]; rfl), nd_nums]
    unfold Tr.before
    rw [List.filter_map]
    rfl
  · intro m hm
    obtain ⟨x, hx, rfl⟩ := List.mem_map.mp (List.mem_filter.mp (List.mem_reverse.mp hm)).1
    exact found_num hx
theorem sim_later (r : SR s g) (w : s.WF B) : Sim B s g (doLater s n) (Ue03.step g (.later n)) := by
  refine Sim.alone r w fun hg => Sim.inOrder r w hg ?_ ?_
  · rw [r.tree.nodes, nd_filter (h := fun x => decide (s.tree.current < x.number)) (fun x _ => by rw [r.tree.now]; rfl), nd_nums]
    unfold Tr.behind
    rw [List.filter_map]
    rfl
  · intro m hm
    obtain ⟨x, hx, rfl⟩ := List.mem_map.mp (List.mem_filter.mp hm).1
    exact found_num hx
theorem sim_ago (r : SR s g) (w : s.WF B) : Sim B s g (doAgo s n) (Ue03.step g (.ago n)) := by
  refine Sim.alone r w fun hg => ?_
  have h := Sim.inOrder (n := 1) r w hg (l := (g.nodes.filter fun x => decide (x.time + n ≤ g.clock)).reverse) (k := s.there n) ?_ ?_
  · rw [if_neg (by decide)] at h
    have e : (g.nodes.filter fun x => decide (x.time + n ≤ g.clock)).reverse[1 - 1]? = (g.nodes.filter fun x => decide (x.time + n ≤ g.clock)).getLast? := by
      rw [← List.head?_eq_getElem?, List.head?_reverse]
    rw [e] at h
    exact h
  · rw [List.map_reverse, r.tree.nodes, nd_filter (h := fun x => decide (x.time + n ≤ s.clock)) (fun x _ => by rw [r.clock]; rfl), nd_nums]
    rfl
  · intro m hm
    obtain ⟨x, hx, rfl⟩ := List.mem_map.mp (List.mem_reverse.mp hm)
    exact found_num (List.mem_filter.mp hx).1
theorem sim_goto (r : SR s g) (w : s.WF B) : Sim B s g (doGo s n) (Ue03.step g (.goto n)) := by
  refine Sim.alone r w fun hg => ?_
  rw [r.tree.findNone]
  by_cases c : (s.tree.find n).isNone = true
  · rw [if_pos c, if_pos c]
    exact Sim.err r w _
  · rw [if_neg c, if_neg c]
    have h : (s.tree.find n).isSome = true := by
      cases q : s.tree.find n with
      | none => rw [q] at c; exact absurd rfl c
      | some x => rfl
    obtain ⟨a, b, d⟩ := Sim.move r w hg h
    exact Sim.of_ok a b.mono d
theorem sim_undo (r : SR s g) (w : s.WF B) : Sim B s g (doUndo s) (Ue03.step g .undo) := by
  refine Sim.alone r w fun hg => ?_
  have e : ((Ue03.find g g.now).bind fun x => x.parent) = (s.tree.get s.tree.current).parent := by
    rw [r.tree.now, r.tree.find, find_get w.tree.here]
    rfl
  rw [e]
  cases q : (s.tree.get s.tree.current).parent with
  | none => exact Sim.err r w _
  | some p =>
    have hp := (w.tree.parSome w.tree.here q).1
    refine Sim.of_ok (SR.same (l := []) r r.tree.goTo rfl rfl hg) (Se.WF.mono ⟨w.tree.goTo hp, w.grp⟩) ?_
    show _ = Ue03.ints [p, (Ue03.textAt g p).length]
    rw [r.tree.textAt w.tree hp]
    rfl
theorem sim_redo (r : SR s g) (w : s.WF B) : Sim B s g (doRedo s) (Ue03.step g .redo) := by
  refine Sim.alone r w fun hg => ?_
  rw [r.tree.now, r.tree.forth w.tree w.tree.here]
  by_cases c : (s.tree.get s.tree.current).children = []
  · rw [if_pos c, if_pos c]
    exact Sim.err r w _
  · rw [if_neg c, if_neg c]
    have hm := liked_mem c
    obtain ⟨y, hy, e, _⟩ := (kids_mem w.tree (get_mem w.tree.here)).mp hm
    have hl : (s.tree.find (s.tree.get s.tree.current).liked).isSome = true := find_isSome.mpr ⟨y, hy, e⟩
    refine Sim.of_ok (SR.same (l := []) r (TR.goTo (r.tree.see (r.tree.given_lt w.tree w.tree.here))) rfl rfl hg) (Se.WF.mono ⟨(w.tree.see _ _).goTo (by rw [see_get.2]; exact hl), w.grp⟩) ?_
    show _ = Ue03.ints [(s.tree.get s.tree.current).liked, (Ue03.textAt g (s.tree.get s.tree.current).liked).length]
    rw [r.tree.textAt w.tree hl]
    rfl
end
end Mir
namespace Mir
open Ue03 (Change)
section
variable {B : Nat} {s : Se} {g : Ue03.House} {n m : Nat} {t : Tr}
theorem isSome_of {o : Option Nd} (c : ¬ o.isNone = true) : o.isSome = true := by
  cases o with
  | none => exact absurd rfl c
  | some x => rfl
theorem fresh_wf {x : List Nat} (h : x.length ≤ 300) (hB : 1 ≤ B) : (Tr.fresh x).WF B := by
  have mem : ∀ z ∈ (Tr.fresh x).nodes, z = Nd.root x := fun z hz => List.mem_singleton.mp hz
  refine ⟨List.pairwise_singleton _ _, ?_, hB, ?_, ?_, ⟨_, List.mem_singleton.mpr rfl, rfl⟩, ⟨_, [], rfl, rfl, rfl, fun y hy => by cases hy⟩, ?_, ?_, ?_, ?_⟩
  · intro z hz
    rw [mem z hz]
    exact Nat.zero_lt_one
  · intro z hz p e
    rw [mem z hz] at e
    cases e
  · intro z hz
    rw [mem z hz]
    rfl
  · intro z hz z2 hz2 e
    rw [mem z hz] at e
    cases e
  · intro z hz
    rw [mem z hz]
    exact h
  · intro z hz
    rw [mem z hz]
    exact ⟨Nat.zero_le _, fun c hc => by cases hc⟩
  · intro z hz
    rw [mem z hz]
    exact Nat.zero_le _
theorem fresh_rel {x : List Nat} : SR ⟨Tr.fresh x, 0, none⟩ { Ue03.init with base := x } := by
  refine ⟨⟨rfl, rfl, rfl, rfl, ?_, fun p hp => by cases hp⟩, rfl, rfl, fun p e => by cases e⟩
  intro z hz
  rw [List.mem_singleton.mp hz]
  rfl
theorem sim_begins {x : List Nat} (r : SR s g) (w : s.WF B) : Sim B s g (doStart s x) (Ue03.step g (.begins x)) := by
  unfold doStart
  show Sim B s g _ (if Ue03.isBytes x = false ∨ Ue03.LONG < x.length then (g, [-1]) else ({ Ue03.init with base := x }, Ue03.ints [x.length]))
  have e : isB x = Ue03.isBytes x := rfl
  have eL : Ue03.LONG = 300 := rfl
  rw [e, eL]
  by_cases c : 300 < x.length ∨ Ue03.isBytes x = false
  · rw [if_pos c, if_pos (show Ue03.isBytes x = false ∨ 300 < x.length from c.symm)]
    exact Sim.err r w _
  · rw [if_neg c, if_neg (show ¬ (Ue03.isBytes x = false ∨ 300 < x.length) from fun z => c z.symm)]
    exact Sim.of_ok fresh_rel ⟨fresh_wf (by omega) (by omega), fun p e => by cases e⟩ rfl
theorem sim_wait (r : SR s g) (w : s.WF B) : Sim B s g (doWait s n) (Ue03.step g (.wait n)) := by
  unfold doWait
  show Sim B s g _ (if Ue03.CLOCK < g.clock + n then (g, [-1]) else ({ g with clock := g.clock + n }, Ue03.ints [g.clock + n]))
  have e := r.clock
  rw [e]
  by_cases c : 1000000 < s.clock + n
  · rw [if_pos c, if_pos (show Ue03.CLOCK < s.clock + n from c)]
    exact Sim.err r w _
  · rw [if_neg c, if_neg (show ¬ Ue03.CLOCK < s.clock + n from c)]
    refine Sim.of_ok ⟨⟨r.tree.nodes, r.tree.now, r.tree.given, r.tree.base, r.tree.last, r.tree.old⟩, ?_, r.group, r.gtext⟩ (Se.WF.mono ⟨w.tree, w.grp⟩) rfl
    rfl
/-- a state is created -/
theorem Sim.put (r : SR s g) (w : s.WF B) {l : List Change} {x : List Nat} (hl : l ≠ []) (hB : l.length ≤ B + 1) (hin : ∀ c ∈ l, c.in_.length ≤ 350) (hx : x = l.foldl Ue03.changed (s.tree.get s.tree.current).text) (h3 : x.length ≤ 300) :
    SR ⟨s.tree.addState s.clock l x, s.clock, none⟩ (Ue03.makes g l) ∧ Se.WF (B + 1) ⟨s.tree.addState s.clock l x, s.clock, none⟩ := by
  refine ⟨⟨?_, ?_, rfl, fun p e => by cases e⟩, ⟨w.tree.addState hl hB hin hx h3, fun p e => by cases e⟩⟩
  · have := r.tree.addState (l := l) (x := x) w.tree
    rw [r.clock] at this
    exact this
  · exact r.clock
theorem changed_len {x : List Nat} {p o : Nat} {w : List Nat} (h : p + o ≤ x.length) : (Ue03.changed x ⟨p, o, w⟩).length = x.length - o + w.length := by
  show (x.take p ++ (w ++ x.drop (p + o))).length = _
  rw [List.length_append, List.length_append, List.length_take, List.length_drop]
  omega
theorem sim_change {p o : Nat} {v : List Nat} (r : SR s g) (w : s.WF B) (hv : v.length ≤ 350) : Sim B s g (doChange s p o v) (Ue03.step g (.change ⟨p, o, v⟩)) := by
  unfold doChange
  show Sim B s g _ (if Ue03.fits (Ue03.textNow g) ⟨p, o, v⟩ = false ∨ Ue03.isBytes v = false then (g, [-1]) else if Ue03.LONG < (Ue03.changed (Ue03.textNow g) ⟨p, o, v⟩).length then (g, [-6]) else
      (match g.group with
      | some l => ({ g with group := some (l ++ [⟨p, o, v⟩]) }, Ue03.ints [g.given, (Ue03.changed (Ue03.textNow g) ⟨p, o, v⟩).length])
      | none => (Ue03.makes g [⟨p, o, v⟩], Ue03.ints [g.given, (Ue03.changed (Ue03.textNow g) ⟨p, o, v⟩).length])))
  rw [r.text w]
  have e1 : (Ue03.fits s.text ⟨p, o, v⟩ = false) ↔ (s.text.length < p + o) := by
    show (decide (p + o ≤ s.text.length) = false) ↔ _
    rw [decide_eq_false_iff_not]
    omega
  have e2 : isB v = Ue03.isBytes v := rfl
  rw [e2]
  by_cases c : s.text.length < p + o ∨ Ue03.isBytes v = false
  · rw [if_pos c, if_pos (c.imp_left e1.mpr)]
    exact Sim.err r w _
  rw [if_neg c, if_neg (show ¬ (Ue03.fits s.text ⟨p, o, v⟩ = false ∨ Ue03.isBytes v = false) from fun z => c (z.imp_left e1.mp))]
  have hl := changed_len (x := s.text) (p := p) (o := o) (w := v) (by omega)
  by_cases c2 : 300 < s.text.length - o + v.length
  · rw [if_pos c2, if_pos (show Ue03.LONG < _ by rw [hl]; exact c2)]
    exact Sim.err r w _
  rw [if_neg c2, if_neg (show ¬ Ue03.LONG < _ by rw [hl]; exact c2)]
  simp only
  have e3 := r.group
  cases q : s.group with
  | some k =>
    rw [q] at e3
    simp only [e3, Option.map_some]
    refine Sim.of_ok ⟨⟨r.tree.nodes, r.tree.now, r.tree.given, r.tree.base, r.tree.last, r.tree.old⟩, r.clock, rfl, ?_⟩ ⟨w.tree.mono, ?_⟩ ?_
    · intro p' e
      obtain rfl := Option.some.inj e
      show Ue03.changed s.text ⟨p, o, v⟩ = (k.1 ++ [_]).foldl Ue03.changed _
      rw [List.foldl_append, ← r.gtext k q]
      have : s.text = k.2 := by
        unfold Se.text
        rw [q]
      rw [this]
      rfl
    · intro p' e
      obtain rfl := Option.some.inj e
      refine ⟨by rw [hl]; omega, ?_, ?_⟩
      · show (k.1 ++ [_]).length ≤ B + 1
        rw [List.length_append, List.length_singleton]
        have := (w.grp k q).2.1
        omega
      · intro d hd
        rcases List.mem_append.mp hd with hd | hd
        · exact (w.grp k q).2.2 d hd
        · rw [List.mem_singleton.mp hd]
          exact hv
    · show intL [s.tree.next, _] = Ue03.ints [g.given, _]
      rw [r.tree.given]
      rfl
  | none =>
    rw [q] at e3
    simp only [e3, Option.map_none]
    have ht : s.text = (s.tree.get s.tree.current).text := by
      unfold Se.text
      rw [q]
    obtain ⟨a, b⟩ := Sim.put r w (l := [⟨p, o, v⟩]) (x := Ue03.changed s.text ⟨p, o, v⟩) (List.cons_ne_nil _ _) (by show 1 ≤ B + 1; omega) (fun d hd => by rw [List.mem_singleton.mp hd]; exact hv) (by rw [ht]; rfl) (by rw [hl]; omega)
    rw [← q] at a b
    refine Sim.of_ok a b ?_
    show intL [s.tree.next, _] = Ue03.ints [g.given, _]
    rw [r.tree.given]
    rfl
theorem sim_open (r : SR s g) (w : s.WF B) : Sim B s g (doOpen s) (Ue03.step g .open_) := by
  refine Sim.alone r w fun hg => ?_
  refine Sim.of_ok ⟨⟨r.tree.nodes, r.tree.now, r.tree.given, r.tree.base, r.tree.last, r.tree.old⟩, r.clock, rfl, ?_⟩ ⟨w.tree.mono, ?_⟩ ?_
  · intro p e
    obtain rfl := Option.some.inj e
    show s.text = _
    unfold Se.text
    rw [hg]
    rfl
  · intro p e
    obtain rfl := Option.some.inj e
    exact ⟨w.text_short, Nat.zero_le _, fun c hc => by cases hc⟩
  · show intL [s.tree.next] = Ue03.ints [g.given]
    rw [r.tree.given]
    rfl
theorem sim_close (r : SR s g) (w : s.WF B) : Sim B s g (doClose s) (Ue03.step g .close) := by
  unfold doClose
  show Sim B s g _ (match g.group with
    | none => (g, [-9])
    | some [] => ({ g with group := none }, Ue03.ints [g.now])
    | some l => (Ue03.makes g l, Ue03.ints [g.given]))
  have e3 := r.group
  cases q : s.group with
  | none =>
    rw [q] at e3
    simp only [e3, Option.map_none]
    exact Sim.err r w _
  | some k =>
    rw [q] at e3
    obtain ⟨l, x⟩ := k
    cases l with
    | nil =>
      simp only [e3, Option.map_some]
      rw [if_pos trivial]
      refine Sim.of_ok ⟨⟨r.tree.nodes, r.tree.now, r.tree.given, r.tree.base, r.tree.last, r.tree.old⟩, r.clock, rfl, fun p e => by cases e⟩ ⟨w.tree.mono, fun p e => by cases e⟩ ?_
      show intL [s.tree.current] = Ue03.ints [g.now]
      rw [r.tree.now]
      rfl
    | cons c l =>
      simp only [e3, Option.map_some]
      rw [if_neg (List.cons_ne_nil _ _)]
      have h1 := w.grp _ q
      obtain ⟨a, b⟩ := Sim.put r w (l := c :: l) (x := x) (List.cons_ne_nil _ _) (Nat.le_succ_of_le h1.2.1) h1.2.2 (r.gtext _ q) h1.1
      refine Sim.of_ok a b ?_
      show intL [s.tree.next] = Ue03.ints [g.given]
      rw [r.tree.given]
      rfl
theorem sim_shows (r : SR s g) (w : s.WF B) : Sim B s g (doText s) (Ue03.step g .shows) := by
  refine Sim.of_ok r w.mono ?_
  show _ = ((Ue03.textNow g).length : Int) :: Ue03.ints (Ue03.textNow g)
  rw [r.text w]
  rfl
theorem ints_app (a b : List Nat) : Ue03.ints (a ++ b) = Ue03.ints a ++ Ue03.ints b := List.map_append
theorem sim_state (r : SR s g) (w : s.WF B) : Sim B s g (doInfo s n) (Ue03.step g (.state n)) := by
  unfold doInfo
  show Sim B s g _ (g, match Ue03.find g n with
    | none => [-2]
    | some x => Ue03.ints ([match x.parent with
        | none => 0
        | some p => p + 1, x.time, (Ue03.path g n).length - 1, if x.kept = true then 1 else 0, x.changes.length, (Ue03.children g n).length] ++ Ue03.children g n))
  rw [r.tree.find]
  cases q : s.tree.find n with
  | none => exact Sim.err r w _
  | some x =>
    have h : (s.tree.find n).isSome = true := by rw [q]; rfl
    refine Sim.of_ok r w.mono ?_
    simp only [Option.map_some]
    rw [r.tree.path w.tree h, r.tree.children' w.tree h, List.length_map, get_find q]
    have hk : (if (nd x).kept = true then 1 else 0) = x.kept := by
      have := w.tree.flag x (find_mem' q)
      show (if (x.kept == 1) = true then 1 else 0) = x.kept
      by_cases c : x.kept = 1
      · rw [c]; rfl
      · have : x.kept = 0 := by omega
        rw [this]; rfl
    rw [hk]
    show intL ([_, _, _, _, _] ++ (x.children.length :: x.children)) = Ue03.ints ([_, _, _, _, _] ++ ([x.children.length] ++ x.children))
    rfl
theorem isEnd_nd (r : TR t g) (w : t.WF B) {x : Nd} (hx : x ∈ t.nodes) : Ue03.isEnd g (nd x) = x.children.isEmpty := by
  unfold Ue03.isEnd
  have : (nd x).number = x.number := rfl
  rw [this, r.children w hx]
theorem sim_ends (r : SR s g) (w : s.WF B) : Sim B s g (doLeaves s) (Ue03.step g .ends) := by
  refine Sim.of_ok r w.mono ?_
  show _ = (((g.nodes.filter (Ue03.isEnd g)).map fun x => x.number).length : Int) :: Ue03.ints ((g.nodes.filter (Ue03.isEnd g)).map fun x => x.number)
  have e : ((g.nodes.filter (Ue03.isEnd g)).map fun x => x.number) = s.tree.leaves := by
    rw [r.tree.nodes, nd_filter (fun x hx => isEnd_nd r.tree w.tree hx), nd_nums]
    rfl
  rw [e]
  rfl
theorem sim_way (r : SR s g) (w : s.WF B) : Sim B s g (doPath s n m) (Ue03.step g (.way n m)) := by
  unfold doPath
  show Sim B s g _ (g, if (Ue03.find g n).isNone = true ∨ (Ue03.find g m).isNone = true then [-2] else ((Ue03.way g n m).length : Int) :: Ue03.ints (Ue03.way g n m))
  rw [r.tree.findNone, r.tree.findNone]
  by_cases c : (s.tree.find n).isNone = true ∨ (s.tree.find m).isNone = true
  · rw [if_pos c, if_pos c]
    exact Sim.err r w _
  rw [if_neg c, if_neg c]
  have h1 := isSome_of fun z => c (.inl z)
  have h2 := isSome_of fun z => c (.inr z)
  refine Sim.of_ok r w.mono ?_
  have e : Ue03.way g n m = s.tree.pathUp n m ++ [s.tree.pathTurn n m] ++ s.tree.pathDown n m := by
    unfold Ue03.way
    simp only
    rw [r.tree.fork w.tree h1 h2, List.append_assoc]
    simp only [List.reverse_reverse]
    rfl
  rw [e]
  rfl
theorem sim_text (r : SR s g) (w : s.WF B) : Sim B s g (doTextOf s n) (Ue03.step g (.text n)) := by
  unfold doTextOf
  show Sim B s g _ (g, if (Ue03.find g n).isNone = true then [-2] else ((Ue03.textAt g n).length : Int) :: Ue03.ints (Ue03.textAt g n))
  rw [r.tree.findNone]
  cases q : s.tree.find n with
  | none => exact Sim.err r w _
  | some x =>
    have h : (s.tree.find n).isSome = true := by rw [q]; rfl
    rw [r.tree.textAt w.tree h, get_find q]
    exact Sim.of_ok r w.mono rfl
theorem sim_keep {k : Nat} {b : Bool} (hb : k = 0 ∧ b = false ∨ k = 1 ∧ b = true) (r : SR s g) (w : s.WF B) : Sim B s g (doKeep s n k) (Ue03.step g (.keep n b)) := by
  unfold doKeep
  show Sim B s g _ (if (Ue03.find g n).isNone = true then (g, [-2]) else ({ g with nodes := g.nodes.map fun x => if x.number = n then { x with kept := b } else x }, [0]))
  rw [r.tree.findNone]
  by_cases c : (s.tree.find n).isNone = true
  · rw [if_pos c, if_pos c]
    exact Sim.err r w _
  rw [if_neg c, if_neg c]
  have hf : ∀ m, ((s.tree.mod n fun x => { x with kept := k }).get m).text = (s.tree.get m).text := by
    intro m
    unfold Tr.get
    rw [mod_find (f := fun x => { x with kept := k }) (fun _ => rfl)]
    cases s.tree.find m with
    | none => rfl
    | some x =>
      show (if x.number = n then ({ x with kept := k } : Nd) else x).text = x.text
      split <;> rfl
  refine Sim.of_ok ⟨⟨?_, r.tree.now, r.tree.given, ?_, ?_, r.tree.old⟩, r.clock, r.group, ?_⟩ (Se.WF.mono ⟨?_, w.grp⟩) rfl
  · show (g.nodes.map fun x => if x.number = n then { x with kept := b } else x) = (s.tree.nodes.map fun x => if x.number = n then { x with kept := k } else x).map nd
    rw [r.tree.nodes, List.map_map, List.map_map]
    apply List.map_congr_left
    intro x _
    show (if x.number = n then ({ nd x with kept := b } : Ue03.Node) else nd x) = nd (if x.number = n then { x with kept := k } else x)
    split
    · rcases hb with ⟨rfl, rfl⟩ | ⟨rfl, rfl⟩ <;> rfl
    · rfl
  · show g.base = _
    have : (s.tree.mod n fun x => { x with kept := k }).root = s.tree.root := root_map fun x => by split <;> rfl
    rw [this, hf]
    exact r.tree.base
  · intro z hz
    obtain ⟨x, hx, rfl⟩ := List.mem_map.mp hz
    have := r.tree.last x hx
    by_cases c : x.number = n
    · simp only [c]
      simp only [c] at this
      exact this
    · simp only [if_neg c]
      exact this
  · intro p e
    have := r.gtext p e
    show p.2 = p.1.foldl Ue03.changed ((s.tree.mod n fun x => { x with kept := k }).get s.tree.current).text
    rw [hf]
    exact this
  · refine w.tree.map (f := fun x => if x.number = n then { x with kept := k } else x) (fun x hx => ?_) w.tree.here
    have := w.tree.flag x hx
    have hk : k ≤ 1 := by omega
    split
    · exact ⟨rfl, rfl, rfl, rfl, rfl, hk⟩
    · exact ⟨rfl, rfl, rfl, rfl, rfl, this⟩
end
end Mir
namespace Mir
open Ue03 (Change)
section
variable {B : Nat} {s : Se} {g : Ue03.House} {n m : Nat} {t : Tr} {x y : Nd}
/-! ### where the bytes come from -/
theorem put_map {A C : Type} (f : A → C) (l w : List A) (p o : Nat) : (Ue03.put l p o w).map f = Ue03.put (l.map f) p o (w.map f) := by
  unfold Ue03.put
  rw [List.map_append, List.map_append, List.map_take, List.map_drop]
theorem origin_changes (k : Nat) : ∀ (cs : List Change) (a : List (Nat × Nat)), (cs.foldl (fun t c => Ue03.put t c.at_ c.out (c.in_.map fun b => (b, k))) a).map (fun x => x.2) = cs.foldl (origin1 k) (a.map fun x => x.2)
  | [], _ => rfl
  | c :: cs, a => by
    rw [List.foldl_cons, List.foldl_cons, origin_changes k cs, put_map]
    congr 1
    unfold origin1
    congr 1
    rw [List.map_map]
    show c.in_.map (fun _ => k) = _
    rw [List.map_const']
theorem origin_ways : ∀ (q : List Nat) (a : List (Nat × Nat)), (∀ k ∈ q, (t.find k).isSome = true) →
    ((q.map fun m => nd (t.get m)).foldl (fun t x => x.changes.foldl (fun t c => Ue03.put t c.at_ c.out (c.in_.map fun b => (b, x.number))) t) a).map (fun x => x.2) = q.foldl (fun l k => (t.get k).changes.foldl (origin1 k) l) (a.map fun x => x.2)
  | [], _, _ => rfl
  | k :: q, a, h => by
    rw [List.map_cons, List.foldl_cons, List.foldl_cons, origin_ways q _ fun z hz => h z (List.mem_cons_of_mem _ hz)]
    congr 1
    have e : (nd (t.get k)).number = k := get_num (h k List.mem_cons_self)
    simp only [e]
    exact origin_changes k _ _
theorem TR.origins (r : TR t g) (w : t.WF B) (h : (t.find n).isSome = true) : (Ue03.origins g n).map (fun x => x.2) = t.origins n := by
  obtain ⟨q, hq⟩ := way_root w n h
  unfold Ue03.origins Tr.origins
  simp only
  have hm := way_mem w n h
  rw [r.path w h, hq]
  rw [hq] at hm
  have e1 : ((t.root :: q).map fun m => nd (t.get m)).drop 1 = q.map fun m => nd (t.get m) := rfl
  have e2 : ((((t.root :: q).map fun m => nd (t.get m)).head?.map fun x => x.number).getD 0) = t.root := get_num w.rootNode.1
  rw [e1, e2, origin_ways q _ fun k hk => (hm k (List.mem_cons_of_mem _ hk)).1, List.map_map, List.foldl_cons]
  rw [w.rootNode.2.2.1, r.base]
  congr 1
  show (t.get t.root).text.map (fun _ => t.root) = _
  rw [List.map_const']
  rfl
theorem sim_origin (r : SR s g) (w : s.WF B) : Sim B s g (doOrigins s) (Ue03.step g .origin) := by
  refine Sim.alone r w fun hg => ?_
  refine Sim.of_ok r w.mono ?_
  have e := r.tree.origins w.tree w.tree.here
  have el : (Ue03.origins g s.tree.current).length = (s.tree.origins s.tree.current).length := by rw [← e, List.length_map]
  show _ = ((Ue03.origins g g.now).length : Int) :: Ue03.ints ((Ue03.origins g g.now).map fun x => x.2)
  rw [r.tree.now, e, el]
  rfl
/-! ### taking back -/
theorem passed_shift (len : Nat) : ∀ (cs : List Change) (o : Option Nat), cs.foldl (fun o c => o.bind fun y => Ue03.passed y c) (o.map fun a => (a, len)) = (cs.foldl (shift len) o).map fun a => (a, len)
  | [], _ => rfl
  | c :: cs, o => by
    rw [List.foldl_cons, List.foldl_cons, ← passed_shift len cs]
    congr 1
    cases o with
    | none => rfl
    | some a =>
      show Ue03.passed (a, len) c = (if a + len ≤ c.at_ then some a else if c.at_ + c.out ≤ a then some (a + c.in_.length - c.out) else none).map fun a => (a, len)
      unfold Ue03.passed
      dsimp only
      split
      · rfl
      · split
        · rfl
        · rfl
theorem way_split (w : t.WF B) : ∀ c, (t.find c).isSome = true → ∀ n ∈ t.way c, ∃ q, t.way c = t.way n ++ q := by
  refine way_ind w (fun c h e n hn => ?_) fun c p h e hp lt ih n hn => ?_
  · rw [way_none w e] at hn
    rw [List.mem_singleton.mp hn]
    exact ⟨[], (List.append_nil _).symm⟩
  · rw [way_some w h e] at hn
    rcases List.mem_append.mp hn with hn | hn
    · obtain ⟨q, hq⟩ := ih n hn
      exact ⟨q ++ [c], by rw [way_some w h e, hq, List.append_assoc]⟩
    · rw [List.mem_singleton.mp hn]
      exact ⟨[], (List.append_nil _).symm⟩
theorem take_drop {A : Type} {P : A → Bool} : ∀ (a : List A) (x : A) (q : List A), (∀ z ∈ a, P z = true) → P x = false → (a ++ x :: q).takeWhile P = a ∧ (a ++ x :: q).dropWhile P = x :: q
  | [], x, q, _, h => ⟨by rw [List.nil_append, List.takeWhile_cons, h]; rfl, by rw [List.nil_append, List.dropWhile_cons, h]; rfl⟩
  | z :: a, x, q, h, hx => by
    have := take_drop a x q (fun u hu => h u (List.mem_cons_of_mem _ hu)) hx
    rw [List.cons_append, List.takeWhile_cons, List.dropWhile_cons, h z List.mem_cons_self]
    exact ⟨by rw [if_pos rfl, this.1], by rw [if_pos rfl, this.2]⟩
theorem idx_app : ∀ (a : List Nat) (n : Nat) (q : List Nat), (∀ z ∈ a, z ≠ n) → (a ++ n :: q).idxOf n = a.length
  | [], n, q, _ => by rw [List.nil_append, List.idxOf_cons_self]; rfl
  | z :: a, n, q, h => by
    have h1 : (z == n) = false := by simpa using h z List.mem_cons_self
    rw [List.cons_append, List.idxOf_cons, h1, idx_app a n q fun u hu => h u (List.mem_cons_of_mem _ hu)]
    rfl
theorem Sim.ite {c c' : Prop} [Decidable c] [Decidable c'] {a b : Res} {a' b' : Ue03.House × List Int} (h : c ↔ c') (h1 : c' → Sim B s g a a') (h2 : ¬ c' → Sim B s g b b') : Sim B s g (if c then a else b) (if c' then a' else b') := by
  by_cases k : c'
  · rw [if_pos k, if_pos (h.mpr k)]
    exact h1 k
  · rw [if_neg k, if_neg fun z => k (h.mp z)]
    exact h2 k
theorem sim_takeback (r : SR s g) (w : s.WF B) : Sim B s g (doRevert s n) (Ue03.step g (.takeback n)) := by
  refine Sim.alone r w fun hg => ?_
  rw [r.tree.find]
  cases q : s.tree.find n with
  | none => exact Sim.err r w _
  | some x =>
  have hf : (s.tree.find n).isSome = true := by rw [q]; rfl
  have hx := find_mem' q
  have hn := find_num' q
  have gx := get_find q
  simp only [Option.map_some]
  have ep : (nd x).parent = x.parent := rfl
  have ec : (nd x).changes = x.changes := rfl
  rw [ep, ec]
  cases qp : x.parent with
  | none =>
    rw [if_pos (show (none : Option Nat).isNone = true ∨ ((Ue03.path g g.now).any fun y => y.number == n) = false from Or.inl rfl)]
    exact Sim.err r w _
  | some p =>
  have hany : ((Ue03.path g g.now).any fun y => y.number == n) = decide (n ∈ s.tree.way s.tree.current) := by
    have e := r.tree.pathNums w.tree w.tree.here
    rw [r.tree.now]
    have : ((Ue03.path g s.tree.current).any fun y => y.number == n) = ((Ue03.path g s.tree.current).map fun y => y.number).any fun y => y == n := by
      rw [List.any_map]
      rfl
    rw [this, e]
    by_cases c : n ∈ s.tree.way s.tree.current
    · rw [decide_eq_true c, List.any_eq_true]
      exact ⟨n, c, by simp⟩
    · rw [decide_eq_false c, List.any_eq_false]
      intro z hz
      have : z ≠ n := fun e => c (e ▸ hz)
      simpa using this
  rw [hany]
  dsimp only
  by_cases c : n ∈ s.tree.way s.tree.current
  rotate_left
  · rw [if_pos c, if_pos (show (some p).isNone = true ∨ decide (n ∈ s.tree.way s.tree.current) = false from Or.inr (decide_eq_false c))]
    exact Sim.err r w _
  rw [if_neg (show ¬ ¬ n ∈ s.tree.way s.tree.current from fun z => z c), if_neg (show ¬ ((some p).isNone = true ∨ decide (n ∈ s.tree.way s.tree.current) = false) by
    rintro (z | z)
    · cases z
    · rw [decide_eq_true c] at z
      cases z)]
  have hne : x.changes ≠ [] := by
    obtain ⟨a, l, e, h1, h2, h3⟩ := w.tree.root
    rw [e] at hx
    rcases List.mem_cons.mp hx with rfl | hx
    · rw [h1] at qp
      cases qp
    · exact (h3 x hx).2
  match qc : x.changes with
  | [] => exact absurd qc hne
  | a :: b :: l =>
    rw [if_pos (by simp only [List.length_cons]; omega)]
    exact Sim.err r w _
  | [d] =>
  rw [if_neg (by simp)]
  dsimp only [List.headD]
  -- the way splits
  have gp : (s.tree.get n).parent = some p := by rw [gx]; exact qp
  obtain ⟨hp, hlt⟩ := w.tree.parSome hf gp
  obtain ⟨rest, hsplit⟩ := way_split w.tree _ w.tree.here n c
  rw [way_some w.tree hf gp, List.append_assoc, List.singleton_append] at hsplit
  have hwp : ∀ z ∈ s.tree.way p, z ≠ n := fun z hz => by
    have := (way_mem w.tree p hp z hz).2
    omega
  have hwp2 : ∀ z ∈ s.tree.way p, (s.tree.find z).isSome = true := fun z hz => (way_mem w.tree p hp z hz).1
  have hpath : Ue03.path g g.now = (s.tree.way p).map (fun m => nd (s.tree.get m)) ++ nd (s.tree.get n) :: rest.map (fun m => nd (s.tree.get m)) := by
    rw [r.tree.now, r.tree.path w.tree w.tree.here, hsplit, List.map_append]
    rfl
  have htd := take_drop (P := fun y : Ue03.Node => y.number != n) ((s.tree.way p).map fun m => nd (s.tree.get m)) (nd (s.tree.get n)) (rest.map fun m => nd (s.tree.get m)) (fun z hz => by
    obtain ⟨k, hk, rfl⟩ := List.mem_map.mp hz
    have e : (nd (s.tree.get k)).number = k := get_num (hwp2 k hk)
    have := hwp k hk
    simp only [e]
    simpa using this) (by
    have e : (nd (s.tree.get n)).number = n := get_num hf
    simp only [e]
    simp)
  have htext : (Ue03.changesOf (((Ue03.path g g.now).takeWhile fun y => y.number != n).drop 1)).foldl Ue03.changed g.base = (s.tree.get p).text := by
    rw [hpath, htd.1, ← r.tree.path w.tree hp]
    exact r.tree.changes w.tree hp
  have hbeh : Ue03.changesOf (((Ue03.path g g.now).dropWhile fun y => y.number != n).drop 1) = ((s.tree.way s.tree.current).drop ((s.tree.way s.tree.current).idxOf n + 1)).flatMap fun k => (s.tree.get k).changes := by
    rw [hpath, htd.2, hsplit, idx_app _ _ _ hwp]
    have e1 : (s.tree.way p ++ n :: rest).drop ((s.tree.way p).length + 1) = rest := by
      rw [← List.drop_drop, List.drop_left]
      rfl
    rw [e1]
    show (rest.map fun m => nd (s.tree.get m)).flatMap (fun y => y.changes) = _
    rw [List.flatMap_map]
    rfl
  have htake : Ue03.takesBack g n d = (s.tree.region n d).map fun a => ⟨a, d.in_.length, ((s.tree.get p).text.drop d.at_).take d.out⟩ := by
    unfold Ue03.takesBack
    simp only
    rw [htext, hbeh]
    unfold Ue03.passedAll Tr.region
    have := passed_shift d.in_.length (((s.tree.way s.tree.current).drop ((s.tree.way s.tree.current).idxOf n + 1)).flatMap fun k => (s.tree.get k).changes) (some d.at_)
    rw [Option.map_some] at this
    rw [this, Option.map_map]
    rfl
  rw [htake]
  cases qr : s.tree.region n d with
  | none => exact Sim.err r w _
  | some a =>
  simp only [Option.map_some]
  rw [r.text w]
  have eL : Ue03.LONG = 300 := rfl
  rw [eL]
  refine Sim.ite (c' := 300 < (Ue03.changed s.text ⟨a, d.in_.length, ((s.tree.get p).text.drop d.at_).take d.out⟩).length) Iff.rfl (fun _ => Sim.err r w _) fun hlong => ?_
  have ht : s.text = (s.tree.get s.tree.current).text := by
    unfold Se.text
    rw [hg]
  obtain ⟨u, v⟩ := Sim.put r w (l := [⟨a, d.in_.length, ((s.tree.get p).text.drop d.at_).take d.out⟩]) (x := Ue03.changed s.text ⟨a, d.in_.length, ((s.tree.get p).text.drop d.at_).take d.out⟩) (List.cons_ne_nil _ _) (by show 1 ≤ B + 1; omega) (fun e he => by
    rw [List.mem_singleton.mp he]
    show (((s.tree.get p).text.drop d.at_).take d.out).length ≤ 350
    rw [List.length_take, List.length_drop]
    have := w.tree.short _ (get_mem hp)
    omega) (by rw [ht]; rfl) (by omega)
  rw [← hg] at u v
  refine Sim.of_ok u v ?_
  show intL [s.tree.next, _] = Ue03.ints [g.given, _]
  rw [r.tree.given]
  rfl
/-! ### forgetting -/
theorem find_congr {A : Type} {P Q : A → Bool} : ∀ {l : List A}, (∀ x ∈ l, P x = Q x) → l.find? P = l.find? Q
  | [], _ => rfl
  | a :: l, h => by
    rw [List.find?_cons, List.find?_cons, h a List.mem_cons_self, find_congr fun x hx => h x (List.mem_cons_of_mem _ hx)]
theorem firstLeaf_eq : t.firstLeaf = (t.nodes.find? fun x => x.children.isEmpty && t.canGo x.number).map fun x => x.number := by
  unfold Tr.firstLeaf Tr.leaves
  rw [List.filter_map, List.filter_filter, List.head?_map, List.head?_filter]
  congr 1
  apply find_congr
  intro x _
  exact Bool.and_comm _ _
theorem TR.nextEnd (r : TR t g) (w : t.WF B) : Ue03.nextEnd g = (t.nodes.find? fun x => x.children.isEmpty && t.canGo x.number).map nd := by
  unfold Ue03.nextEnd
  rw [r.nodes, List.find?_map]
  congr 1
  apply find_congr
  intro x hx
  show (Ue03.isEnd g (nd x) && (x.parent.isSome && (x.number != g.now && !(x.kept == 1)))) = _
  rw [isEnd_nd r w hx, r.now]
  unfold Tr.canGo
  rw [get_of w hx rfl]
  have hk : (!(x.kept == 1)) = (x.kept == 0) := by
    have := w.flag x hx
    by_cases c : x.kept = 1
    · rw [c]; rfl
    · have : x.kept = 0 := by omega
      rw [this]; rfl
  rw [hk]
  cases hc : x.children.isEmpty with
  | false => rfl
  | true =>
    cases hne : (x.number != t.current) with
    | false =>
      simp
    | true =>
      have : x.parent.isSome = true := by
        cases q : x.parent with
        | some p => rfl
        | none =>
          exfalso
          have hr := w.rootNode.2.2.2 x hx q
          have e2 : t.get t.root = x := get_of w hx hr
          have z := root_alone w (by rw [e2]; simpa using hc) t.current w.here
          rw [z, ← hr] at hne
          simp at hne
      rw [this]
      rfl
theorem root_get {a : Nd} {l : List Nd} (e : t.nodes = a :: l) : t.get t.root = a := by
  have er : t.root = a.number := by
    unfold Tr.root
    rw [e]
    rfl
  unfold Tr.get Tr.find
  rw [e, er, List.find?_cons]
  simp
theorem TR.delLeaf (r : TR t g) (w : t.WF B) {p : Nat} (hf : t.find n = some x) (hp : x.parent = some p) : TR (t.delLeaf n) { g with nodes := g.nodes.filter fun y => y.number != n } := by
  have en : (t.delLeaf n).nodes = (t.nodes.filter fun y => y.number != n).map fun y => if y.number = p then { y with children := y.children.erase n } else y := by
    unfold Tr.delLeaf
    rw [get_find hf, hp]
    rfl
  refine ⟨?_, r.now, r.given, ?_, ?_, r.old⟩
  · show g.nodes.filter _ = _
    rw [en, List.map_map, r.nodes, List.filter_map]
    apply List.map_congr_left
    intro y _
    show nd y = nd (if y.number = p then { y with children := y.children.erase n } else y)
    split <;> rfl
  · obtain ⟨a, l, e, h1, h2, h3⟩ := w.root
    have hne : a.number ≠ n := fun z => by
      have ha : a ∈ t.nodes := by rw [e]; exact List.mem_cons_self
      have := find_of w ha z
      rw [hf] at this
      rw [Option.some.inj this, h1] at hp
      cases hp
    have e2 : (t.delLeaf n).nodes = (if a.number = p then { a with children := a.children.erase n } else a) :: (l.filter fun y => y.number != n).map fun y => if y.number = p then { y with children := y.children.erase n } else y := by
      rw [en, e, List.filter_cons_of_pos (by simpa using hne), List.map_cons]
    rw [root_get e2]
    have hb := r.base
    rw [root_get e] at hb
    show g.base = _
    rw [hb]
    split <;> rfl
  · intro z hz
    rw [en] at hz
    obtain ⟨y, hy, rfl⟩ := List.mem_map.mp hz
    have := r.last y (List.mem_filter.mp hy).1
    show lastOf g.last _ = _
    split <;> exact this
theorem TR.delRoot (r : TR t g) (w : t.WF B) (h : t.rootCanGo = true) {c : Nat} (hc : (t.get t.root).children = [c]) : TR t.delRoot { g with base := Ue03.textAt g c, nodes := (g.nodes.filter fun y => y.number != t.root).map fun y => if y.number = c then { y with parent := none, changes := [] } else y } := by
  obtain ⟨r0, y0, l, c', e, er, ec, hc', hp, hcur, hk, gr, hr0⟩ := rootCanGo_some w h
  rw [hc] at hc'
  obtain rfl : c = c' := by cases hc'; rfl
  have en := delRoot_nodes w e er ec hc
  have en2 : t.delRoot.nodes = (t.nodes.filter fun x => x.number != t.root).map fun x => if x.number = c then { x with parent := none, changes := [] } else x := by
    show (t.nodes.filter fun x => x.number != t.root).map (fun x => if x.number = (t.get t.root).children.headD 0 then { x with parent := none, changes := [] } else x) = _
    rw [hc]
    rfl
  have hy0 : y0 ∈ t.nodes := by rw [e]; exact List.mem_cons_of_mem _ List.mem_cons_self
  refine ⟨?_, r.now, r.given, ?_, ?_, r.old⟩
  · show (g.nodes.filter fun y => y.number != t.root).map (fun y => if y.number = c then { y with parent := none, changes := [] } else y) = _
    rw [en2, r.nodes, List.filter_map, List.map_map, List.map_map]
    apply List.map_congr_left
    intro y _
    show (if y.number = c then ({ nd y with parent := none, changes := [] } : Ue03.Node) else nd y) = nd (if y.number = c then { y with parent := none, changes := [] } else y)
    split <;> rfl
  · show Ue03.textAt g c = _
    rw [root_get en, r.textAt w (find_isSome.mpr ⟨y0, hy0, ec⟩), get_of w hy0 ec]
  · intro z hz
    show lastOf g.last _ = _
    rw [en] at hz
    rcases List.mem_cons.mp hz with rfl | hz
    · exact r.last y0 hy0
    · exact r.last z (by rw [e]; exact List.mem_cons_of_mem _ (List.mem_cons_of_mem _ hz))
theorem sim_lessEnds : ∀ (f : Nat) {t : Tr} {g : Ue03.House} {l : List Nat}, TR t g → t.WF B → TR (lessLeaves f t n l).1 (Ue03.lessEnds f g n l).1 ∧ (lessLeaves f t n l).1.WF B ∧ (lessLeaves f t n l).2 = (Ue03.lessEnds f g n l).2 ∧ (Ue03.lessEnds f g n l).1.clock = g.clock ∧ (Ue03.lessEnds f g n l).1.group = g.group
  | 0, t, g, l, r, w => ⟨r, w, rfl, rfl, rfl⟩
  | f + 1, t, g, l, r, w => by
    unfold lessLeaves Ue03.lessEnds
    rw [r.nextEnd w, firstLeaf_eq]
    have el : g.nodes.length = t.nodes.length := by rw [r.nodes, List.length_map]
    rw [el]
    by_cases c : n < t.nodes.length
    · rw [if_pos c, if_neg (by omega)]
      cases q : (t.nodes.find? fun x => x.children.isEmpty && t.canGo x.number) with
      | none => exact ⟨r, w, rfl, rfl, rfl⟩
      | some x =>
        have hfl : t.firstLeaf = some x.number := by rw [firstLeaf_eq, q]; rfl
        obtain ⟨y, p, h1, h2, h3, h4, h5⟩ := firstLeaf_some w hfl
        exact sim_lessEnds f (r.delLeaf w h1 h5) (w.delLeaf h1 h5 h2 h3)
    · rw [if_neg c, if_pos (by omega)]
      exact ⟨r, w, rfl, rfl, rfl⟩
theorem sim_lessFirst : ∀ (f : Nat) {t : Tr} {g : Ue03.House} {l : List Nat}, TR t g → t.WF B → TR (lessRoots f t n l).1 (Ue03.lessFirst f g n l).1 ∧ (lessRoots f t n l).1.WF B ∧ (lessRoots f t n l).2 = (Ue03.lessFirst f g n l).2 ∧ (Ue03.lessFirst f g n l).1.clock = g.clock ∧ (Ue03.lessFirst f g n l).1.group = g.group
  | 0, t, g, l, r, w => ⟨r, w, rfl, rfl, rfl⟩
  | f + 1, t, g, l, r, w => by
    unfold lessRoots Ue03.lessFirst
    have el : g.nodes.length = t.nodes.length := by rw [r.nodes, List.length_map]
    rw [el]
    by_cases c : n < t.nodes.length
    rotate_left
    · rw [if_neg (fun z => c z.1), if_pos (by omega)]
      exact ⟨r, w, rfl, rfl, rfl⟩
    rw [if_neg (show ¬ t.nodes.length ≤ n by omega)]
    obtain ⟨a, q, e, h1, h2, h3⟩ := w.root
    have ha : a ∈ t.nodes := by rw [e]; exact List.mem_cons_self
    have er : t.root = a.number := by
      unfold Tr.root
      rw [e]
      rfl
    have ga := root_get e
    have ef : (g.nodes.find? fun x => x.parent.isNone) = some (nd a) := by
      rw [r.nodes, e, List.map_cons, List.find?_cons]
      have : (nd a).parent.isNone = true := by
        show a.parent.isNone = true
        rw [h1]
        rfl
      rw [this]
    rw [ef]
    have e1 : (nd a).number = t.root := er.symm
    have e2 : ((nd a).kept = true) ↔ a.kept = 1 := by
      show ((a.kept == 1) = true) ↔ _
      simp
    have ech : Ue03.children g t.root = a.children := by
      rw [er]
      exact r.children w ha
    simp only [e1, ech]
    by_cases hgo : t.rootCanGo = true
    · rw [if_pos ⟨c, hgo⟩]
      obtain ⟨r0, y0, l', c', e', er', ec', hc', hp', hcur, hk, gr, hr0⟩ := rootCanGo_some w hgo
      rw [ga] at hc' hk
      rw [if_neg (by
        rintro (z | z)
        · exact hcur (z.trans r.now)
        · rw [e2, hk] at z
          cases z)]
      rw [hc']
      exact sim_lessFirst f (r.delRoot w hgo (by rw [ga]; exact hc')) (w.delRoot hgo)
    · rw [if_neg (fun z => hgo z.2)]
      split
      · exact ⟨r, w, rfl, rfl, rfl⟩
      · rename_i hno
        split
        · rename_i c' hc'
          exfalso
          apply hgo
          unfold Tr.rootCanGo Tr.canGo
          rw [ga, hc']
          have k0 : a.kept = 0 := by
            have h := w.flag a ha
            have : ¬ a.kept = 1 := fun z => hno (.inr (e2.mpr z))
            omega
          have nc : t.root ≠ t.current := fun z => hno (.inl (z.trans r.now.symm))
          rw [k0]
          simpa using nc
        · exact ⟨r, w, rfl, rfl, rfl⟩
theorem sim_forget (r : SR s g) (w : s.WF B) : Sim B s g (doForget s n) (Ue03.step g (.forget n)) := by
  refine Sim.alone r w fun hg => ?_
  by_cases c : n = 0
  · rw [if_pos c, if_pos c]
    exact Sim.err r w _
  rw [if_neg c, if_neg c]
  have el : g.nodes.length = s.tree.nodes.length := by rw [r.tree.nodes, List.length_map]
  obtain ⟨a1, a2, a3, a4, a5⟩ := sim_lessEnds (n := n) (l := []) s.tree.nodes.length r.tree w.tree
  obtain ⟨b1, b2, b3, b4, b5⟩ := sim_lessFirst (n := n) (l := (lessLeaves s.tree.nodes.length s.tree n []).2) (lessLeaves s.tree.nodes.length s.tree n []).1.nodes.length a1 a2
  have ef : Ue03.forgets g n = Ue03.lessFirst (lessLeaves s.tree.nodes.length s.tree n []).1.nodes.length (Ue03.lessEnds s.tree.nodes.length g n []).1 n (lessLeaves s.tree.nodes.length s.tree n []).2 := by
    unfold Ue03.forgets
    simp only
    rw [el, a3]
    congr 1
    rw [a1.nodes, List.length_map]
  dsimp only
  rw [ef]
  refine Sim.of_ok (SR.same (l := []) r b1 (b4.trans a4) (b5.trans a5) hg) (Se.WF.mono ⟨b2, w.grp⟩) ?_
  show intL (counted (s.tree.forget n).2) = _
  rw [counted_ints]
  show (((lessRoots _ _ n _).2.length : Int)) :: Ue03.ints (lessRoots _ _ n _).2 = _
  rw [b3]
end
end Mir
namespace Mir
open Ue03 (Change)
theorem len1 {l : List Nat} (h : l.length = 1) : ∃ a, l = [a] := by
  match l, h with
  | [a], _ => exact ⟨a, rfl⟩
theorem len2 {l : List Nat} (h : l.length = 2) : ∃ a b, l = [a, b] := by
  match l, h with
  | [a, b], _ => exact ⟨a, b, rfl⟩
theorem len0 {l : List Nat} (h : l.length = 0) : l = [] := List.eq_nil_of_length_eq_zero h
section
variable {B : Nat} {s : Se} {g : Ue03.House}
theorem sim_all {k : Nat} (hk : k ≤ 19) {a row : List Nat} (ha : a.length = plainOf k) (hr : hasRow k = false → row = []) (hl : row.length ≤ 350) {c : Ue03.Call} (hc : Ue03Neutral.callIn (k :: (a ++ row)) = some c) (r : SR s g) (w : s.WF B) :
    Sim B s g (carry s k a row) (Ue03.step g c) ∧ (k = 17 → a.getD 1 0 ≤ 1) := by
  match k, hk with
  | 0, _ =>
    obtain rfl := len0 ha
    obtain rfl := Option.some.inj hc
    exact ⟨sim_begins r w, fun z => absurd z (by decide)⟩
  | 1, _ =>
    obtain ⟨x, rfl⟩ := len1 ha
    obtain rfl := hr rfl
    obtain rfl := Option.some.inj hc
    exact ⟨sim_wait r w, fun z => absurd z (by decide)⟩
  | 2, _ =>
    obtain ⟨x, y, rfl⟩ := len2 ha
    obtain rfl := Option.some.inj hc
    exact ⟨sim_change r w hl, fun z => absurd z (by decide)⟩
  | 3, _ =>
    obtain rfl := len0 ha
    obtain rfl := hr rfl
    obtain rfl := Option.some.inj hc
    exact ⟨sim_open r w, fun z => absurd z (by decide)⟩
  | 4, _ =>
    obtain rfl := len0 ha
    obtain rfl := hr rfl
    obtain rfl := Option.some.inj hc
    exact ⟨sim_close r w, fun z => absurd z (by decide)⟩
  | 5, _ =>
    obtain rfl := len0 ha
    obtain rfl := hr rfl
    obtain rfl := Option.some.inj hc
    exact ⟨sim_undo r w, fun z => absurd z (by decide)⟩
  | 6, _ =>
    obtain rfl := len0 ha
    obtain rfl := hr rfl
    obtain rfl := Option.some.inj hc
    exact ⟨sim_redo r w, fun z => absurd z (by decide)⟩
  | 7, _ =>
    obtain ⟨x, rfl⟩ := len1 ha
    obtain rfl := hr rfl
    obtain rfl := Option.some.inj hc
    exact ⟨sim_goto r w, fun z => absurd z (by decide)⟩
  | 8, _ =>
    obtain ⟨x, rfl⟩ := len1 ha
    obtain rfl := hr rfl
    obtain rfl := Option.some.inj hc
    exact ⟨sim_earlier r w, fun z => absurd z (by decide)⟩
  | 9, _ =>
    obtain ⟨x, rfl⟩ := len1 ha
    obtain rfl := hr rfl
    obtain rfl := Option.some.inj hc
    exact ⟨sim_later r w, fun z => absurd z (by decide)⟩
  | 10, _ =>
    obtain ⟨x, rfl⟩ := len1 ha
    obtain rfl := hr rfl
    obtain rfl := Option.some.inj hc
    exact ⟨sim_ago r w, fun z => absurd z (by decide)⟩
  | 11, _ =>
    obtain rfl := len0 ha
    obtain rfl := hr rfl
    obtain rfl := Option.some.inj hc
    exact ⟨sim_shows r w, fun z => absurd z (by decide)⟩
  | 12, _ =>
    obtain ⟨x, rfl⟩ := len1 ha
    obtain rfl := hr rfl
    obtain rfl := Option.some.inj hc
    exact ⟨sim_state r w, fun z => absurd z (by decide)⟩
  | 13, _ =>
    obtain rfl := len0 ha
    obtain rfl := hr rfl
    obtain rfl := Option.some.inj hc
    exact ⟨sim_ends r w, fun z => absurd z (by decide)⟩
  | 14, _ =>
    obtain ⟨x, y, rfl⟩ := len2 ha
    obtain rfl := hr rfl
    obtain rfl := Option.some.inj hc
    exact ⟨sim_way r w, fun z => absurd z (by decide)⟩
  | 15, _ =>
    obtain rfl := len0 ha
    obtain rfl := hr rfl
    obtain rfl := Option.some.inj hc
    exact ⟨sim_origin r w, fun z => absurd z (by decide)⟩
  | 16, _ =>
    obtain ⟨x, rfl⟩ := len1 ha
    obtain rfl := hr rfl
    obtain rfl := Option.some.inj hc
    exact ⟨sim_takeback r w, fun z => absurd z (by decide)⟩
  | 17, _ =>
    obtain ⟨x, y, rfl⟩ := len2 ha
    obtain rfl := hr rfl
    have hc : (if y = 0 then some (Ue03.Call.keep x false) else if y = 1 then some (.keep x true) else none) = some c := hc
    by_cases h0 : y = 0
    · rw [if_pos h0] at hc
      obtain rfl := Option.some.inj hc
      exact ⟨sim_keep (.inl ⟨h0, rfl⟩) r w, fun _ => by show y ≤ 1; omega⟩
    · rw [if_neg h0] at hc
      by_cases h1 : y = 1
      · rw [if_pos h1] at hc
        obtain rfl := Option.some.inj hc
        exact ⟨sim_keep (.inr ⟨h1, rfl⟩) r w, fun _ => by show y ≤ 1; omega⟩
      · rw [if_neg h1] at hc
        cases hc
  | 18, _ =>
    obtain ⟨x, rfl⟩ := len1 ha
    obtain rfl := hr rfl
    obtain rfl := Option.some.inj hc
    exact ⟨sim_forget r w, fun z => absurd z (by decide)⟩
  | 19, _ =>
    obtain ⟨x, rfl⟩ := len1 ha
    obtain rfl := hr rfl
    obtain rfl := Option.some.inj hc
    exact ⟨sim_text r w, fun z => absurd z (by decide)⟩
/-! ### reading -/
theorem shape_in : ∀ k : Nat, k ≤ 19 → PyUe03.shape (k : Int) = some (plainOf k, if hasRow k = true then 1 else 0)
  | 0, _ | 1, _ | 2, _ | 3, _ | 4, _ | 5, _ | 6, _ | 7, _ | 8, _ | 9, _ | 10, _ | 11, _ | 12, _ | 13, _ | 14, _ | 15, _ | 16, _ | 17, _ | 18, _ | 19, _ => by decide
  | k + 20, h => by omega
theorem shape_out (k : Nat) (h : ¬ k ≤ 19) : PyUe03.shape (k : Int) = none := by
  unfold PyUe03.shape
  repeat rw [if_neg (by omega)]
def up (l : List Nat) : List Int := l.map Int.ofNat
theorem whole_eq {k : Nat} (hk : k ≤ 19) {a row : List Nat} (ha : a.length = plainOf k) (hr : hasRow k = false → row = []) :
    (PyUe03.whole (up (k :: a) :: (if hasRow k = true then [up row] else []))).headD [] = up (k :: (a ++ row)) := by
  match k, hk with
  | 0, _ =>
    obtain rfl := len0 ha
    rfl
  | 2, _ =>
    obtain ⟨x, y, rfl⟩ := len2 ha
    rfl
  | 3, _ | 4, _ | 5, _ | 6, _ | 11, _ | 13, _ | 15, _ =>
    obtain rfl := len0 ha
    obtain rfl := hr rfl
    rfl
  | 1, _ | 7, _ | 8, _ | 9, _ | 10, _ | 12, _ | 16, _ | 18, _ | 19, _ =>
    obtain ⟨x, rfl⟩ := len1 ha
    obtain rfl := hr rfl
    rfl
  | 14, _ | 17, _ =>
    obtain ⟨x, y, rfl⟩ := len2 ha
    obtain rfl := hr rfl
    rfl
  | k + 20, h => exact absurd h (by omega)
theorem up_drop (l : List Nat) (n : Nat) : (up l).drop n = up (l.drop n) := (List.map_drop).symm
theorem up_take (l : List Nat) (n : Nat) : (up l).take n = up (l.take n) := (List.map_take).symm
theorem up_len (l : List Nat) : (up l).length = l.length := List.length_map _
theorem call_eq {k : Nat} {q : List Nat} {c : List (List Int)} {tl : List Int} (h : PyFlat.call PyUe03.shape (up (k :: q)) = some (c, tl)) :
    k ≤ 19 ∧ readLen (k :: q) ≤ (k :: q).length ∧ (readPlain (k :: q)).length = plainOf k ∧ tl = up ((k :: q).drop (readLen (k :: q))) ∧ c = up (k :: readPlain (k :: q)) :: (if hasRow k = true then [up (readRow (k :: q))] else []) ∧ (hasRow k = false → readRow (k :: q) = []) := by
  have h : (match PyUe03.shape (k : Int) with
    | none => none
    | some (n, j) => if (up q).length < n then none else match PyFlat.rows j ((up q).drop n) with
      | none => none
      | some (xs, t) => some (((k : Int) :: (up q).take n) :: xs, t)) = some (c, tl) := h
  by_cases hk : k ≤ 19
  rotate_left
  · rw [shape_out k hk] at h
    cases h
  rw [shape_in k hk] at h
  dsimp only at h
  rw [up_len] at h
  by_cases hn : q.length < plainOf k
  · rw [if_pos hn] at h
    cases h
  rw [if_neg hn, up_drop, up_take] at h
  have hpl : (readPlain (k :: q)).length = plainOf k := by
    show (q.take (plainOf k)).length = _
    rw [List.length_take]
    omega
  by_cases hrow : hasRow k = true
  · rw [if_pos hrow] at h ⊢
    have e1 : readLen (k :: q) = plainOf k + 2 + (k :: q).getD (plainOf k + 1) 0 := by
      show (if hasRow k = true then _ else _) = _
      rw [if_pos hrow]
      rfl
    have e2 : readRow (k :: q) = ((k :: q).drop (plainOf k + 2)).take ((k :: q).getD (plainOf k + 1) 0) := by
      show (if hasRow k = true then _ else _) = _
      rw [if_pos hrow]
      rfl
    have e3 : (k :: q).getD (plainOf k + 1) 0 = (q.drop (plainOf k)).headD 0 := by
      rw [List.headD_eq_head?_getD, List.head?_drop]
      rfl
    have e4 : (k :: q).drop (plainOf k + 2) = (q.drop (plainOf k)).drop 1 := by
      rw [List.drop_drop]
      rfl
    have e5 : (k :: q).drop (plainOf k + 2 + (k :: q).getD (plainOf k + 1) 0) = ((q.drop (plainOf k)).drop 1).drop ((k :: q).getD (plainOf k + 1) 0) := by
      rw [← e4, List.drop_drop]
    have e6 : (k :: q).length = plainOf k + 1 + (q.drop (plainOf k)).length := by
      rw [List.length_drop, List.length_cons]
      omega
    rw [e1, e2, e5, e4, e3, e6]
    cases hd : q.drop (plainOf k) with
    | nil =>
      rw [hd] at h
      cases h
    | cons m v =>
      rw [hd] at h
      have h : (match (match (if 0 ≤ (m : Int) ∧ (m : Int).toNat ≤ (up v).length then some ((up v).take (m : Int).toNat, (up v).drop (m : Int).toNat) else none) with
        | none => none
        | some (x, s) => some ([x], s)) with
        | none => none
        | some (xs, t) => some (((k : Int) :: up (q.take (plainOf k))) :: xs, t)) = some (c, tl) := h
      rw [up_len, Int.toNat_natCast] at h
      by_cases hm : 0 ≤ (m : Int) ∧ m ≤ v.length
      · rw [if_pos hm, up_take, up_drop] at h
        have h := Option.some.inj h
        obtain ⟨h1, h2⟩ := Prod.mk.inj h
        refine ⟨hk, ?_, hpl, h2.symm, h1.symm, fun z => ?_⟩
        · show plainOf k + 2 + m ≤ plainOf k + 1 + (v.length + 1)
          omega
        · rw [hrow] at z
          cases z
      · rw [if_neg hm] at h
        cases h
  · rw [if_neg hrow] at h ⊢
    have h := Option.some.inj h
    obtain ⟨h1, h2⟩ := Prod.mk.inj h
    have e1 : readLen (k :: q) = plainOf k + 1 := by
      show (if hasRow k = true then _ else _) = _
      rw [if_neg hrow]
      rfl
    have e2 : readRow (k :: q) = [] := by
      show (if hasRow k = true then _ else _) = _
      rw [if_neg hrow]
    rw [e1]
    refine ⟨hk, ?_, hpl, h2.symm, h1.symm, fun _ => e2⟩
    rw [List.length_cons]
    omega
theorem Se.WF.more {B' : Nat} (h : B ≤ B') (w : s.WF B) : s.WF B' := by
  induction h with
  | refl => exact w
  | step _ ih => exact ih.mono
theorem callOf_up {l : List Nat} (h : Ue03Neutral.asked1 (up l) = true) : ∃ c, Ue03Neutral.callIn l = some c ∧ Ue03Neutral.callOf (up l) = some c := by
  unfold Ue03Neutral.asked1 at h
  obtain ⟨c, e⟩ := Option.isSome_iff_exists.mp h
  refine ⟨c, ?_, e⟩
  unfold Ue03Neutral.callOf at e
  by_cases q : (up l).all Ue03Neutral.nat = false
  · rw [if_pos q] at e
    cases e
  · rw [if_neg q] at e
    have : (up l).map Int.toNat = l := by
      unfold up
      rw [List.map_map]
      exact List.map_id l
    rw [this] at e
    exact e
theorem row_short {k : Nat} (hk : k ≤ 19) {a row : List Nat} (hr : hasRow k = false → row = []) (h : PyInside.call PyUe03.bound (up (k :: a) :: (if hasRow k = true then [up row] else [])) = true) : row.length ≤ 350 := by
  by_cases q : hasRow k = true
  · rw [if_pos q] at h
    have hk2 : k = 0 ∨ k = 2 := by
      unfold hasRow at q
      simpa using q
    have h : (PyInside.each (PyUe03.bound (k : Int)).1 (up a) && PyInside.lists (PyUe03.bound (k : Int)).2 [up row]) = true := h
    rw [Bool.and_eq_true] at h
    have h := h.2
    have e : (PyUe03.bound (k : Int)).2 = [(0, 4294967295, 0, 350)] := by
      rcases hk2 with rfl | rfl <;> rfl
    rw [e] at h
    unfold PyInside.lists at h
    rw [Bool.and_eq_true, Bool.and_eq_true, Bool.and_eq_true, up_len] at h
    exact of_decide_eq_true h.1.1.2
  · rw [hr (by simpa using q)]
    exact Nat.zero_le _
theorem told_cons (a : List Int) (l : List (List Int)) : PyFlat.told (a :: l) = (a.length : Int) :: a ++ PyFlat.told l := by
  unfold PyFlat.told
  rw [List.flatMap_cons]
theorem played_cons {S : Type} (st : S → List (List Int) → S × List Int) (g : S) (c : List (List Int)) (l : List (List (List Int))) : PyFlat.played st g (c :: l) = (st g c).2 :: PyFlat.played st (st g c).1 l := rfl
theorem calls_cons (sh : Int → Option (Nat × Nat)) (f : Nat) (p : Int) (r : List Int) : PyFlat.calls sh (f + 1) (p :: r) = match PyFlat.call sh (p :: r) with
      | none => none
      | some (c, t) => match PyFlat.calls sh f t with
        | none => none
        | some cs => some (c :: cs) := rfl
theorem calls_nil (sh : Int → Option (Nat × Nat)) (f : Nat) : PyFlat.calls sh f [] = some [] := by
  cases f <;> rfl
theorem up_cons (k : Nat) (q : List Nat) : up (k :: q) = (k : Int) :: up q := rfl
theorem neutral_of {g : Ue03.House} {l : List Int} {c : Ue03.Call} (h : Ue03Neutral.callOf l = some c) : Ue03Neutral.step g l = Ue03.step g c := by
  unfold Ue03Neutral.step
  generalize Ue03Neutral.callOf l = o at h
  subst h
  rfl
theorem run_eq : ∀ (f : Nat) (l : List Nat) (raw : List (List (List Int))) {s : Se} {g : Ue03.House} {B : Nat}, PyFlat.calls PyUe03.shape f (up l) = some raw → (∀ c ∈ raw, Ue03Neutral.asked1 ((PyUe03.whole c).headD []) = true) → (∀ c ∈ raw, PyInside.call PyUe03.bound c = true) → SR s g → s.WF B → B + raw.length ≤ 100 →
    Fine f s l ∧ Mir.run f s l = PyFlat.told (PyFlat.played (fun s c => Ue03Neutral.step s (c.headD [])) g (raw.map PyUe03.whole)) := by
  intro f
  induction f with
  | zero =>
   intro l raw s g B h _ _ r w hB
   cases l with
   | nil =>
    rw [show up [] = [] from rfl, calls_nil] at h
    obtain rfl := Option.some.inj h
    exact ⟨rfl, rfl⟩
   | cons k q => cases h
  | succ f ih =>
   intro l raw s g B h h1 h2 r w hB
   cases l with
   | nil =>
    rw [show up [] = [] from rfl, calls_nil] at h
    obtain rfl := Option.some.inj h
    exact ⟨.inl rfl, by unfold Mir.run; rw [if_pos rfl]; rfl⟩
   | cons k q =>
    rw [up_cons, calls_cons, ← up_cons] at h
    cases e : PyFlat.call PyUe03.shape (up (k :: q)) with
    | none =>
      rw [e] at h
      cases h
    | some p =>
    obtain ⟨c, tl⟩ := p
    rw [e] at h
    dsimp only at h
    obtain ⟨hk, hrl, hpl, rfl, hc, hrow⟩ := call_eq e
    cases e2 : PyFlat.calls PyUe03.shape f (up ((k :: q).drop (readLen (k :: q)))) with
    | none =>
      rw [e2] at h
      cases h
    | some cs =>
    rw [e2] at h
    obtain rfl := Option.some.inj h
    rw [List.length_cons] at hB
    have hw := whole_eq hk hpl hrow
    rw [← hc] at hw
    have ha := h1 c List.mem_cons_self
    rw [hw] at ha
    obtain ⟨call, hin, hof⟩ := callOf_up ha
    have hb := h2 c List.mem_cons_self
    have hc2 := hc
    rw [hc2] at hb
    have hl := row_short hk hrow hb
    obtain ⟨sim, flag⟩ := sim_all hk hpl hrow hl hin r w
    have hstep : Ue03Neutral.step g ((PyUe03.whole c).headD []) = Ue03.step g call := by
      rw [hw]
      exact neutral_of hof
    obtain ⟨i1, i2⟩ := ih ((k :: q).drop (readLen (k :: q))) cs e2 (fun c hc => h1 c (List.mem_cons_of_mem _ hc)) (fun c hc => h2 c (List.mem_cons_of_mem _ hc)) sim.rel sim.wf (by omega)
    have es : step s (k :: q) = turn s (carry s k (readPlain (k :: q)) (readRow (k :: q))) := rfl
    refine ⟨.inr ⟨hk, hrl, fun z => flag z, hl, w.more (by omega), ?_⟩, ?_⟩
    · rw [es]
      exact i1
    · conv => lhs; unfold Mir.run
      rw [if_neg (List.cons_ne_nil _ _), es, i2, sim.out, List.map_cons, played_cons, told_cons, hstep]
theorem down_up {l : List Int} (h : ∀ x ∈ l, 0 ≤ x) : up (l.map Int.toNat) = l := by
  unfold up
  rw [List.map_map]
  conv => rhs; rw [← List.map_id l]
  apply List.map_congr_left
  intro x hx
  exact Int.toNat_of_nonneg (h x hx)
theorem answers_ok {l : List Int} (h0 : ∀ x ∈ l, 0 ≤ x) (h : PyUe03.answers_asked l = true) :
    Fine (l.map Int.toNat).length Se.fresh (l.map Int.toNat) ∧ PyUe03.answers l = Mir.run (l.map Int.toNat).length Se.fresh (l.map Int.toNat) ∧ (Mir.run (l.map Int.toNat).length Se.fresh (l.map Int.toNat)).length ≤ 10000000 := by
  unfold PyUe03.answers_asked at h
  cases e : PyFlat.calls PyUe03.shape l.length l with
  | none =>
    rw [e] at h
    cases h
  | some raw =>
    rw [e] at h
    dsimp only at h
    rw [Bool.and_eq_true, Bool.and_eq_true, Bool.and_eq_true, Bool.and_eq_true] at h
    obtain ⟨⟨⟨⟨_, h80⟩, hin⟩, hask⟩, hshort⟩ := h
    have h80 : raw.length ≤ 80 := of_decide_eq_true h80
    have hin : ∀ c ∈ raw, PyInside.call PyUe03.bound c = true := List.all_eq_true.mp hin
    unfold Ue03Neutral.asked at hask
    rw [Bool.and_eq_true] at hask
    have hask := List.all_eq_true.mp hask.1
    have hask : ∀ c ∈ raw, Ue03Neutral.asked1 ((PyUe03.whole c).headD []) = true := fun c hc => hask _ (List.mem_map.mpr ⟨_, List.mem_map.mpr ⟨c, hc, rfl⟩, rfl⟩)
    have e' : PyFlat.calls PyUe03.shape (l.map Int.toNat).length (up (l.map Int.toNat)) = some raw := by
      rw [down_up h0, List.length_map]
      exact e
    obtain ⟨a, b⟩ := run_eq _ _ raw (s := Se.fresh) (g := Ue03Neutral.start) (B := 1) e' hask hin fresh_rel ⟨fresh_wf (Nat.zero_le _) (Nat.le_refl _), fun p e => by cases e⟩ (by omega)
    have ea : PyUe03.answers l = Mir.run (l.map Int.toNat).length Se.fresh (l.map Int.toNat) := by
      rw [b]
      unfold PyUe03.answers PyUe03.calls
      rw [e]
    refine ⟨a, ea, ?_⟩
    rw [← ea]
    exact of_decide_eq_true hshort
end
end Mir
namespace UB
open PySem PySem.Spec PyProof.Rows L2
open PySem.W (Codec)
open Mir
theorem nl_down {l : List Int} (h : ∀ x ∈ l, 0 ≤ x) : nl (l.map Int.toNat) = l.map V.int := by
  unfold nl
  rw [List.map_map]
  apply List.map_congr_left
  intro x hx
  show V.int ((x.toNat : Nat) : Int) = V.int x
  rw [Int.toNat_of_nonneg (h x hx)]
/-- what is asked, what is due -/
theorem request {K : PySem.W.Frag} {H : Hp} {xs : List V} {a : Codec.denoteAll PySem.Challenge.rw_undobranches_s01_answers.args} (hwi : Codec.withinAll PySem.Challenge.rw_undobranches_s01_answers.args a = true)
    (hask : Codec.app PySem.Challenge.rw_undobranches_s01_answers.args PySem.Challenge.rw_undobranches_s01_answers.asked a = true) (hx : DwAll K H xs (Codec.encAll PySem.Challenge.rw_undobranches_s01_answers.args a)) :
    spAns K xs H (fun v H' => Dw K H' v (PySem.Challenge.rw_undobranches_s01_answers.ret.enc (Codec.app PySem.Challenge.rw_undobranches_s01_answers.args PySem.Challenge.rw_undobranches_s01_answers.f a))) fun _ _ _ => False := by
  cases hx with
  | cons h1 h2 =>
    cases h2
    cases h1 with
    | lst hs ha =>
      have e := L2.ints_dw a.1 _ ha
      subst e
      have q : ((Codec.inLen 0 28320 a.1 && a.1.all (Codec.inInt 0 4294967295)) && true) = true := hwi
      rw [Bool.and_eq_true, Bool.and_eq_true] at q
      have h0 : ∀ x ∈ a.1, 0 ≤ x := fun x hx => (Codec.inInt_iff.mp (List.all_eq_true.mp q.1.2 x hx)).1
      have hk : PyUe03.answers_asked a.1 = true := hask
      obtain ⟨k1, k2, k3⟩ := answers_ok h0 hk
      refine ⟨_, a.1.map Int.toNat, rfl, ?_, k1, by omega, fun H' p hp => ?_⟩
      · rw [nl_down h0]
        exact hs
      · have e2 : Codec.app PySem.Challenge.rw_undobranches_s01_answers.args PySem.Challenge.rw_undobranches_s01_answers.f a = Mir.run (a.1.map Int.toNat).length Se.fresh (a.1.map Int.toNat) := k2
        rw [e2]
        exact .lst (L2.SqL.of hp) (L2.dw_ints _)
end UB
open PySem PySem.W PyProof.Rows
theorem PySem.Challenge.cw_undobranches_s01_answers_holds : PySem.Challenge.rw_undobranches_s01_answers.Holds := by
  w_on; k_headS; (case hw => exact ⟨[.list [.int 3]], by decide +kernel, by decide +kernel⟩)
  k_fillS
  refine L2.walk_specK (r := PySem.Challenge.rw_undobranches_s01_answers) (k := 12) (CX := L2.CX0) (ps := ["calls"]) (sp := UB.spAns) (by decide +kernel) rfl rfl ⟨rfl, by decide, by decide⟩ (fun w h Y => PySem.W.kIn_of Y) ?F ?S (fun _ _ _ _ z => z)
  case F =>
    intro w mg fa h Y KX G hmg
    refine' UB.all_mk KX G hmg ?aCS ?aCT ?aCG ?aCE ?aCR ?aPL ?aC0 ?aC1 ?aC2 ?aC3 ?aC4 ?aC5 ?aC6 ?aC7 ?aC8 ?lPL ?pgCS ?hdCS ?poCS ?saCS ?mkCS ?kcCS ?pgCT ?hdCT ?poCT ?saCT ?mkCT ?kcCT ?pgCG ?hdCG ?poCG ?saCG ?mkCG ?kcCG ?pgCE ?hdCE ?poCE ?saCE ?mkCE ?kcCE ?nS_parent ?nS_time ?nS_changes ?nS_text ?nS_kept ?nS_children ?nS_visited ?nT_states ?nT_current ?nT_next ?nG_changes ?nG_text ?nE_tree ?nE_clock ?nE_group ?g_len ?g_max ?g_min ?g_sorted ?g_zip ?g_exc ?c_GREATEST_BYTE ?c_LONGEST_TEXT ?c_LATEST_CLOCK ?c_START ?c_WAIT ?c_CHANGE ?c_OPEN_GROUP ?c_CLOSE_GROUP ?c_UNDO ?c_REDO ?c_GO_TO ?c_EARLIER ?c_LATER ?c_AGO ?c_GET_TEXT ?c_STATE_INFO ?c_LEAVES ?c_PATH ?c_ORIGINS ?c_REVERT ?c_SET_KEPT ?c_FORGET ?a0 ?l0 ?c0 ?k0 ?a1 ?i1 ?l1 ?c1 ?k1 ?a2 ?i2 ?l2 ?c2 ?k2 ?a3 ?i3 ?l3 ?c3 ?k3 ?a4 ?i4 ?l4 ?c4 ?k4 ?a5 ?i5 ?l5 ?c5 ?k5 ?a6 ?i6 ?l6 ?c6 ?k6 ?a7 ?i7 ?l7 ?c7 ?k7 ?a8 ?i8 ?l8 ?c8 ?k8 ?a9 ?i9 ?l9 ?c9 ?k9 ?a10 ?l10 ?c10 ?k10 ?a11 ?l11 ?c11 ?k11 ?a12 ?l12 ?c12 ?k12 ?a13 ?i13 ?l13 ?c13 ?k13 ?a14 ?i14 ?l14 ?c14 ?k14 ?a15 ?i15 ?l15 ?c15 ?k15 ?a16 ?i16 ?l16 ?c16 ?k16 ?a17 ?i17 ?l17 ?c17 ?k17 ?a18 ?i18 ?l18 ?c18 ?k18 ?a19 ?i19 ?l19 ?c19 ?k19 ?a20 ?i20 ?l20 ?c20 ?k20 ?a21 ?i21 ?l21 ?c21 ?k21 ?a22 ?i22 ?l22 ?c22 ?k22 ?a23 ?i23 ?l23 ?c23 ?k23 ?a24 ?i24 ?l24 ?c24 ?k24 ?a25 ?i25 ?l25 ?c25 ?k25 ?a26 ?i26 ?l26 ?c26 ?k26 ?a27 ?i27 ?l27 ?c27 ?k27 ?a28 ?i28 ?l28 ?c28 ?k28 ?a29 ?i29 ?l29 ?c29 ?k29 ?a30 ?l30 ?c30 ?k30 ?a31 ?l31 ?c31 ?k31 ?a32 ?i32 ?l32 ?c32 ?k32 ?a33 ?i33 ?l33 ?c33 ?k33 ?a34 ?i34 ?l34 ?c34 ?k34 ?a35 ?i35 ?l35 ?c35 ?k35 ?a36 ?i36 ?l36 ?c36 ?k36 ?a37 ?i37 ?l37 ?c37 ?k37 ?a38 ?i38 ?l38 ?c38 ?k38 ?a39 ?i39 ?l39 ?c39 ?k39 ?a40 ?i40 ?l40 ?c40 ?k40 ?a41 ?i41 ?l41 ?c41 ?k41 ?a42 ?i42 ?l42 ?c42 ?k42 ?a43 ?i43 ?l43 ?c43 ?k43 ?a44 ?i44 ?l44 ?c44 ?k44 ?a45 ?i45 ?l45 ?c45 ?k45 ?a46 ?i46 ?l46 ?c46 ?k46 ?a47 ?i47 ?l47 ?c47 ?k47 ?a48 ?i48 ?l48 ?c48 ?k48 ?a49 ?i49 ?l49 ?c49 ?k49 ?a50 ?i50 ?l50 ?c50 ?k50 ?a51 ?i51 ?l51 ?c51 ?k51 ?a52 ?i52 ?l52 ?c52 ?k52 ?a53 ?i53 ?l53 ?c53 ?k53 ?a54 ?i54 ?l54 ?c54 ?k54 ?a55 ?i55 ?l55 ?c55 ?k55 ?a56 ?i56 ?l56 ?c56 ?k56 ?a57 ?i57 ?l57 ?c57 ?k57 ?a58 ?i58 ?l58 ?c58 ?k58 ?a59 ?i59 ?l59 ?c59 ?k59 ?a60 ?i60 ?l60 ?c60 ?k60 ?a61 ?l61 ?c61 ?k61 ?a62 ?l62 ?c62 ?k62 ?a63 ?l63 ?c63 ?k63 ?a64 ?l64 ?c64 ?k64 ?a65 ?l65 ?c65 ?k65 ?a66 ?l66 ?c66 ?k66 ?rdR ?gaR ?vV ?bR ?isR ?tyR ?xc0 ?xs0 ?xb0 ?xt0 ?xk0 ?xn0 ?xg0 ?xa0 ?xd0 ?xu0 ?xc1 ?xs1 ?xb1 ?xt1 ?xk1 ?xn1 ?xg1 ?xa1 ?xd1 ?xu1 ?xc2 ?xs2 ?xb2 ?xt2 ?xk2 ?xn2 ?xg2 ?xa2 ?xd2 ?xu2 ?xc3 ?xs3 ?xb3 ?xt3 ?xk3 ?xn3 ?xg3 ?xa3 ?xd3 ?xu3 ?xc4 ?xs4 ?xb4 ?xt4 ?xk4 ?xn4 ?xg4 ?xa4 ?xd4 ?xu4 ?xc5 ?xs5 ?xb5 ?xt5 ?xk5 ?xn5 ?xg5 ?xa5 ?xd5 ?xu5 ?xc6 ?xs6 ?xb6 ?xt6 ?xk6 ?xn6 ?xg6 ?xa6 ?xd6 ?xu6 ?xc7 ?xs7 ?xb7 ?xt7 ?xk7 ?xn7 ?xg7 ?xa7 ?xd7 ?xu7 ?xc8 ?xs8 ?xb8 ?xt8 ?xk8 ?xn8 ?xg8 ?xa8 ?xd8 ?xu8
    (case aCS => k_is)
    (case aCT => k_is)
    (case aCG => k_is)
    (case aCE => k_is)
    (case aCR => k_is)
    (case aPL => k_is)
    (case aC0 => k_is)
    (case aC1 => k_is)
    (case aC2 => k_is)
    (case aC3 => k_is)
    (case aC4 => k_is)
    (case aC5 => k_is)
    (case aC6 => k_is)
    (case aC7 => k_is)
    (case aC8 => k_is)
    (case lPL => k_is)
    (case pgCS => k_is)
    (case hdCS => k_is)
    (case poCS => k_is)
    (case saCS => k_is)
    (case mkCS => k_is)
    (case kcCS => k_is)
    (case pgCT => k_is)
    (case hdCT => k_is)
    (case poCT => k_is)
    (case saCT => k_is)
    (case mkCT => k_is)
    (case kcCT => k_is)
    (case pgCG => k_is)
    (case hdCG => k_is)
    (case poCG => k_is)
    (case saCG => k_is)
    (case mkCG => k_is)
    (case kcCG => k_is)
    (case pgCE => k_is)
    (case hdCE => k_is)
    (case poCE => k_is)
    (case saCE => k_is)
    (case mkCE => k_is)
    (case kcCE => k_is)
    (case nS_parent => k_is)
    (case nS_time => k_is)
    (case nS_changes => k_is)
    (case nS_text => k_is)
    (case nS_kept => k_is)
    (case nS_children => k_is)
    (case nS_visited => k_is)
    (case nT_states => k_is)
    (case nT_current => k_is)
    (case nT_next => k_is)
    (case nG_changes => k_is)
    (case nG_text => k_is)
    (case nE_tree => k_is)
    (case nE_clock => k_is)
    (case nE_group => k_is)
    (case g_len => k_is)
    (case g_max => k_is)
    (case g_min => k_is)
    (case g_sorted => k_is)
    (case g_zip => k_is)
    (case g_exc => k_is)
    (case c_GREATEST_BYTE => k_is)
    (case c_LONGEST_TEXT => k_is)
    (case c_LATEST_CLOCK => k_is)
    (case c_START => k_is)
    (case c_WAIT => k_is)
    (case c_CHANGE => k_is)
    (case c_OPEN_GROUP => k_is)
    (case c_CLOSE_GROUP => k_is)
    (case c_UNDO => k_is)
    (case c_REDO => k_is)
    (case c_GO_TO => k_is)
    (case c_EARLIER => k_is)
    (case c_LATER => k_is)
    (case c_AGO => k_is)
    (case c_GET_TEXT => k_is)
    (case c_STATE_INFO => k_is)
    (case c_LEAVES => k_is)
    (case c_PATH => k_is)
    (case c_ORIGINS => k_is)
    (case c_REVERT => k_is)
    (case c_SET_KEPT => k_is)
    (case c_FORGET => k_is)
    (case a0 => k_is)
    (case l0 => k_is)
    (case c0 => k_is)
    (case k0 => k_is)
    (case a1 => k_is)
    (case i1 => k_is)
    (case l1 => k_is)
    (case c1 => k_is)
    (case k1 => k_is)
    (case a2 => k_is)
    (case i2 => k_is)
    (case l2 => k_is)
    (case c2 => k_is)
    (case k2 => k_is)
    (case a3 => k_is)
    (case i3 => k_is)
    (case l3 => k_is)
    (case c3 => k_is)
    (case k3 => k_is)
    (case a4 => k_is)
    (case i4 => k_is)
    (case l4 => k_is)
    (case c4 => k_is)
    (case k4 => k_is)
    (case a5 => k_is)
    (case i5 => k_is)
    (case l5 => k_is)
    (case c5 => k_is)
    (case k5 => k_is)
    (case a6 => k_is)
    (case i6 => k_is)
    (case l6 => k_is)
    (case c6 => k_is)
    (case k6 => k_is)
    (case a7 => k_is)
    (case i7 => k_is)
    (case l7 => k_is)
    (case c7 => k_is)
    (case k7 => k_is)
    (case a8 => k_is)
    (case i8 => k_is)
    (case l8 => k_is)
    (case c8 => k_is)
    (case k8 => k_is)
    (case a9 => k_is)
    (case i9 => k_is)
    (case l9 => k_is)
    (case c9 => k_is)
    (case k9 => k_is)
    (case a10 => k_is)
    (case l10 => k_is)
    (case c10 => k_is)
    (case k10 => k_is)
    (case a11 => k_is)
    (case l11 => k_is)
    (case c11 => k_is)
    (case k11 => k_is)
    (case a12 => k_is)
    (case l12 => k_is)
    (case c12 => k_is)
    (case k12 => k_is)
    (case a13 => k_is)
    (case i13 => k_is)
    (case l13 => k_is)
    (case c13 => k_is)
    (case k13 => k_is)
    (case a14 => k_is)
    (case i14 => k_is)
    (case l14 => k_is)
    (case c14 => k_is)
    (case k14 => k_is)
    (case a15 => k_is)
    (case i15 => k_is)
    (case l15 => k_is)
    (case c15 => k_is)
    (case k15 => k_is)
    (case a16 => k_is)
    (case i16 => k_is)
    (case l16 => k_is)
    (case c16 => k_is)
    (case k16 => k_is)
    (case a17 => k_is)
    (case i17 => k_is)
    (case l17 => k_is)
    (case c17 => k_is)
    (case k17 => k_is)
    (case a18 => k_is)
    (case i18 => k_is)
    (case l18 => k_is)
    (case c18 => k_is)
    (case k18 => k_is)
    (case a19 => k_is)
    (case i19 => k_is)
    (case l19 => k_is)
    (case c19 => k_is)
    (case k19 => k_is)
    (case a20 => k_is)
    (case i20 => k_is)
    (case l20 => k_is)
    (case c20 => k_is)
    (case k20 => k_is)
    (case a21 => k_is)
    (case i21 => k_is)
    (case l21 => k_is)
    (case c21 => k_is)
    (case k21 => k_is)
    (case a22 => k_is)
    (case i22 => k_is)
    (case l22 => k_is)
    (case c22 => k_is)
    (case k22 => k_is)
    (case a23 => k_is)
    (case i23 => k_is)
    (case l23 => k_is)
    (case c23 => k_is)
    (case k23 => k_is)
    (case a24 => k_is)
    (case i24 => k_is)
    (case l24 => k_is)
    (case c24 => k_is)
    (case k24 => k_is)
    (case a25 => k_is)
    (case i25 => k_is)
    (case l25 => k_is)
    (case c25 => k_is)
    (case k25 => k_is)
    (case a26 => k_is)
    (case i26 => k_is)
    (case l26 => k_is)
    (case c26 => k_is)
    (case k26 => k_is)
    (case a27 => k_is)
    (case i27 => k_is)
    (case l27 => k_is)
    (case c27 => k_is)
    (case k27 => k_is)
    (case a28 => k_is)
    (case i28 => k_is)
    (case l28 => k_is)
    (case c28 => k_is)
    (case k28 => k_is)
    (case a29 => k_is)
    (case i29 => k_is)
    (case l29 => k_is)
    (case c29 => k_is)
    (case k29 => k_is)
    (case a30 => k_is)
    (case l30 => k_is)
    (case c30 => k_is)
    (case k30 => k_is)
    (case a31 => k_is)
    (case l31 => k_is)
    (case c31 => k_is)
    (case k31 => k_is)
    (case a32 => k_is)
    (case i32 => k_is)
    (case l32 => k_is)
    (case c32 => k_is)
    (case k32 => k_is)
    (case a33 => k_is)
    (case i33 => k_is)
    (case l33 => k_is)
    (case c33 => k_is)
    (case k33 => k_is)
    (case a34 => k_is)
    (case i34 => k_is)
    (case l34 => k_is)
    (case c34 => k_is)
    (case k34 => k_is)
    (case a35 => k_is)
    (case i35 => k_is)
    (case l35 => k_is)
    (case c35 => k_is)
    (case k35 => k_is)
    (case a36 => k_is)
    (case i36 => k_is)
    (case l36 => k_is)
    (case c36 => k_is)
    (case k36 => k_is)
    (case a37 => k_is)
    (case i37 => k_is)
    (case l37 => k_is)
    (case c37 => k_is)
    (case k37 => k_is)
    (case a38 => k_is)
    (case i38 => k_is)
    (case l38 => k_is)
    (case c38 => k_is)
    (case k38 => k_is)
    (case a39 => k_is)
    (case i39 => k_is)
    (case l39 => k_is)
    (case c39 => k_is)
    (case k39 => k_is)
    (case a40 => k_is)
    (case i40 => k_is)
    (case l40 => k_is)
    (case c40 => k_is)
    (case k40 => k_is)
    (case a41 => k_is)
    (case i41 => k_is)
    (case l41 => k_is)
    (case c41 => k_is)
    (case k41 => k_is)
    (case a42 => k_is)
    (case i42 => k_is)
    (case l42 => k_is)
    (case c42 => k_is)
    (case k42 => k_is)
    (case a43 => k_is)
    (case i43 => k_is)
    (case l43 => k_is)
    (case c43 => k_is)
    (case k43 => k_is)
    (case a44 => k_is)
    (case i44 => k_is)
    (case l44 => k_is)
    (case c44 => k_is)
    (case k44 => k_is)
    (case a45 => k_is)
    (case i45 => k_is)
    (case l45 => k_is)
    (case c45 => k_is)
    (case k45 => k_is)
    (case a46 => k_is)
    (case i46 => k_is)
    (case l46 => k_is)
    (case c46 => k_is)
    (case k46 => k_is)
    (case a47 => k_is)
    (case i47 => k_is)
    (case l47 => k_is)
    (case c47 => k_is)
    (case k47 => k_is)
    (case a48 => k_is)
    (case i48 => k_is)
    (case l48 => k_is)
    (case c48 => k_is)
    (case k48 => k_is)
    (case a49 => k_is)
    (case i49 => k_is)
    (case l49 => k_is)
    (case c49 => k_is)
    (case k49 => k_is)
    (case a50 => k_is)
    (case i50 => k_is)
    (case l50 => k_is)
    (case c50 => k_is)
    (case k50 => k_is)
    (case a51 => k_is)
    (case i51 => k_is)
    (case l51 => k_is)
    (case c51 => k_is)
    (case k51 => k_is)
    (case a52 => k_is)
    (case i52 => k_is)
    (case l52 => k_is)
    (case c52 => k_is)
    (case k52 => k_is)
    (case a53 => k_is)
    (case i53 => k_is)
    (case l53 => k_is)
    (case c53 => k_is)
    (case k53 => k_is)
    (case a54 => k_is)
    (case i54 => k_is)
    (case l54 => k_is)
    (case c54 => k_is)
    (case k54 => k_is)
    (case a55 => k_is)
    (case i55 => k_is)
    (case l55 => k_is)
    (case c55 => k_is)
    (case k55 => k_is)
    (case a56 => k_is)
    (case i56 => k_is)
    (case l56 => k_is)
    (case c56 => k_is)
    (case k56 => k_is)
    (case a57 => k_is)
    (case i57 => k_is)
    (case l57 => k_is)
    (case c57 => k_is)
    (case k57 => k_is)
    (case a58 => k_is)
    (case i58 => k_is)
    (case l58 => k_is)
    (case c58 => k_is)
    (case k58 => k_is)
    (case a59 => k_is)
    (case i59 => k_is)
    (case l59 => k_is)
    (case c59 => k_is)
    (case k59 => k_is)
    (case a60 => k_is)
    (case i60 => k_is)
    (case l60 => k_is)
    (case c60 => k_is)
    (case k60 => k_is)
    (case a61 => k_is)
    (case l61 => k_is)
    (case c61 => k_is)
    (case k61 => k_is)
    (case a62 => k_is)
    (case l62 => k_is)
    (case c62 => k_is)
    (case k62 => k_is)
    (case a63 => k_is)
    (case l63 => k_is)
    (case c63 => k_is)
    (case k63 => k_is)
    (case a64 => k_is)
    (case l64 => k_is)
    (case c64 => k_is)
    (case k64 => k_is)
    (case a65 => k_is)
    (case l65 => k_is)
    (case c65 => k_is)
    (case k65 => k_is)
    (case a66 => k_is)
    (case l66 => k_is)
    (case c66 => k_is)
    (case k66 => k_is)
    (case rdR => k_is)
    (case gaR => k_is)
    (case vV => k_is)
    (case bR => k_is)
    (case isR => k_is)
    (case tyR => k_is)
    (case xc0 => refine' ⟨_, _, _, _, _, _, _, _, _, _, _, _, _, _, _, ?xx0, rfl⟩; (case xx0 => first | rfl | k_is))
    (case xs0 => k_is)
    (case xb0 => k_is)
    (case xt0 => k_is)
    (case xk0 => k_is)
    (case xn0 => k_is)
    (case xg0 => k_is)
    (case xa0 => k_is)
    (case xd0 => k_is)
    (case xu0 => k_is)
    (case xc1 => refine' ⟨_, _, _, _, _, _, _, _, _, _, _, _, _, _, _, ?xx1, rfl⟩; (case xx1 => first | rfl | k_is))
    (case xs1 => k_is)
    (case xb1 => k_is)
    (case xt1 => k_is)
    (case xk1 => k_is)
    (case xn1 => k_is)
    (case xg1 => k_is)
    (case xa1 => k_is)
    (case xd1 => k_is)
    (case xu1 => k_is)
    (case xc2 => refine' ⟨_, _, _, _, _, _, _, _, _, _, _, _, _, _, _, ?xx2, rfl⟩; (case xx2 => first | rfl | k_is))
    (case xs2 => k_is)
    (case xb2 => k_is)
    (case xt2 => k_is)
    (case xk2 => k_is)
    (case xn2 => k_is)
    (case xg2 => k_is)
    (case xa2 => k_is)
    (case xd2 => k_is)
    (case xu2 => k_is)
    (case xc3 => refine' ⟨_, _, _, _, _, _, _, _, _, _, _, _, _, _, _, ?xx3, rfl⟩; (case xx3 => first | rfl | k_is))
    (case xs3 => k_is)
    (case xb3 => k_is)
    (case xt3 => k_is)
    (case xk3 => k_is)
    (case xn3 => k_is)
    (case xg3 => k_is)
    (case xa3 => k_is)
    (case xd3 => k_is)
    (case xu3 => k_is)
    (case xc4 => refine' ⟨_, _, _, _, _, _, _, _, _, _, _, _, _, _, _, ?xx4, rfl⟩; (case xx4 => first | rfl | k_is))
    (case xs4 => k_is)
    (case xb4 => k_is)
    (case xt4 => k_is)
    (case xk4 => k_is)
    (case xn4 => k_is)
    (case xg4 => k_is)
    (case xa4 => k_is)
    (case xd4 => k_is)
    (case xu4 => k_is)
    (case xc5 => refine' ⟨_, _, _, _, _, _, _, _, _, _, _, _, _, _, _, ?xx5, rfl⟩; (case xx5 => first | rfl | k_is))
    (case xs5 => k_is)
    (case xb5 => k_is)
    (case xt5 => k_is)
    (case xk5 => k_is)
    (case xn5 => k_is)
    (case xg5 => k_is)
    (case xa5 => k_is)
    (case xd5 => k_is)
    (case xu5 => k_is)
    (case xc6 => refine' ⟨_, _, _, _, _, _, _, _, _, _, _, _, _, _, _, ?xx6, rfl⟩; (case xx6 => first | rfl | k_is))
    (case xs6 => k_is)
    (case xb6 => k_is)
    (case xt6 => k_is)
    (case xk6 => k_is)
    (case xn6 => k_is)
    (case xg6 => k_is)
    (case xa6 => k_is)
    (case xd6 => k_is)
    (case xu6 => k_is)
    (case xc7 => refine' ⟨_, _, _, _, _, _, _, _, _, _, _, _, _, _, _, ?xx7, rfl⟩; (case xx7 => first | rfl | k_is))
    (case xs7 => k_is)
    (case xb7 => k_is)
    (case xt7 => k_is)
    (case xk7 => k_is)
    (case xn7 => k_is)
    (case xg7 => k_is)
    (case xa7 => k_is)
    (case xd7 => k_is)
    (case xu7 => k_is)
    (case xc8 => refine' ⟨_, _, _, _, _, _, _, _, _, _, _, _, _, _, _, ?xx8, rfl⟩; (case xx8 => first | rfl | k_is))
    (case xs8 => k_is)
    (case xb8 => k_is)
    (case xt8 => k_is)
    (case xk8 => k_is)
    (case xn8 => k_is)
    (case xg8 => k_is)
    (case xa8 => k_is)
    (case xd8 => k_is)
    (case xu8 => k_is)
  case S =>
    intro K H xs a hO hwi hask hx
    exact UB.request hwi hask hx
