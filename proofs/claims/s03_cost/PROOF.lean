import PyProof.Rows.All
import Wide.All
import OpenK.AllK
import Wide.FinOn
import PyProof.EqAt
import PyProof.EqKinds
import PyProof.TupleCall
import Open.SpecLaws
import KE.OsGo
import HandS.ForSpec
import HandS.Comp
import HandS.ExcInit
import HandS.ExcField
import HandS.ClsMeth
import KE.GoesEnumKw
import HandS.Walk
import PyProof.Rows.CallKwBuiltin
import HandS.Nested
import HandS.More
import KE.KStateDown
import HandS.Head0
import HandS.Head1
import HandS.Head2
import HandS.Head4
import PySem.Challenge.RW_plainlayout_s03_cost
set_option Elab.async false
set_option linter.all false
set_option maxRecDepth 100000
set_option maxHeartbeats 2000000
namespace PySem
namespace Pl
open PySem.W PySem.Calls PyProof.Rows PySem.HandSPX
/-! ### error classes of the program's own, under Exception -/
abbrev exT : List Value := [.type "Exception", .type "BaseException", .type "object"]
/-- own classes, then Exception's chain -/
def UnderE (l : List Value) : Prop := ∃ cs : List Addr, l = cs.map Value.ref ++ exT
theorem UnderE.cons {l : List Value} (c : Addr) (h : UnderE l) : UnderE (.ref c :: l) := by
  obtain ⟨cs, rfl⟩ := h
  exact ⟨c :: cs, rfl⟩
theorem UnderE.has {l : List Value} (h : UnderE l) (n : String) : l.contains (.type n) = exT.contains (.type n) := by
  obtain ⟨cs, rfl⟩ := h
  induction cs with
  | nil => rfl
  | cons c r ih =>
    rw [List.map_cons, List.cons_append, List.contains_cons, ih]
    rfl
theorem UnderE.full {l : List Value} (h : UnderE l) : l.isEmpty = false := by
  obtain ⟨cs, rfl⟩ := h
  cases cs <;> rfl
theorem UnderE.open_ {l : List Value} (h : UnderE l) (self : Value) : refuseLoop self "__setattr__" l = pure () := by
  obtain ⟨cs, rfl⟩ := h
  induction cs with
  | nil => exact F.store_Exception.passes self
  | cons c r ih =>
    rw [List.map_cons, List.cons_append, refuseLoop_ref]
    exact ih
section
open Builtin Builtin.ObjectAttr
variable {prog : Program} {w : World} {A : Around} {R : Result → Shared → Prop} {hp : Heap} {g : Array GenState} {d : Drawn} {t : Nat} {os : OsState}
/-- the first field of a fresh error -/
theorem first_field {K : W.Frag} {name : Str} {tk : Tok} {v : Value} {x C : Addr} {fv : Array Value} {cd : ClassData} (X : K.In hp) (hx : hp.get? x = some { cls := .ref C, data := .fields fv }) (hcd : W.clsIn K C = some cd)
    (hm : UnderE cd.mro) (hh : cd.hasDict = true) (ha : W.findIn K (.ref C) name = some none)
    (hq : ∀ h' tk' dx, (∀ b o, b ≠ x → hp.get? b = some o → h'.get? b = some o) → hp.objs.size ≤ dx → dx ≠ x → h'.get? x = some { cls := .ref C, dict := some dx, data := .fields fv } →
      h'.Ns1 dx (fun y => if y = name then some v else none) → R (.ok (.ret .none)) ⟨h', g, d, tk', os⟩) :
    codeAny (model prog w) A (.call (.builtin "object.__setattr__") ⟨[.ref x, .str name tk, v], []⟩) R ⟨hp, g, d, t, os⟩ := by
  have inst : W.InstAt hp x { cls := .ref C, data := .fields fv } C none := ⟨hx, rfl, rfl, trivial⟩
  have apart : hp.objs.size ≠ x := Nat.ne_of_gt (Heap.lt_size hx)
  have isObj : cd.mro.contains (.type "object") = true := (hm.has "object").trans (by decide +kernel)
  have inMro : W.mroIn K C (.type "object") = some true := by
    unfold W.mroIn
    rw [hcd, Option.bind_some, if_neg (by rw [hm.full]; decide), isObj]
  have lookInst : W.Looks (model prog w) hp (isInstance (.ref x) (.type "object")) true := inst.type.andThen (W.looks_mroIn X inMro)
  have lookCls : W.Looks (model prog w) hp (classData C) cd := W.looks_clsIn X hcd
  have lookMro : W.Looks (model prog w) hp (mroOf (.ref C)) cd.mro := lookCls.andThen .now
  have noTaker : W.Looks (model prog w) hp (storeTaker? none) none := .now
  refine codeAny_call_builtin F.store_object.slot.plain F.store_object.entry ?_
  refine @W.check_slot (model prog w) _ _ ⟨hp, g, d, t, os⟩ "object.__setattr__" "object" "__setattr__" (.ref x) [.str name tk, v] [] _ F.store_object.kind F.store_object.split lookInst (F.store_object.args (.ref x) (.str name tk) v) ?_
  rw [W.osa_eq, refuse_eq]
  refine wpAny_bind (wpAny_bind ?_)
  refine inst.type.at (wpAny_bind ?_)
  refine lookMro.at ?_
  rw [hm.open_]
  refine wpAny_pure (wpAny_bind ?_)
  refine inst.type.at (wpAny_bind ?_)
  refine (W.looks_findIn X ha).at (wpAny_bind ?_)
  refine noTaker.at ?_
  show wpAny _ _ (storeInOwnDict (.ref x) (.ref C) (.str name tk) name v false) _ _ _
  obtain ⟨nm, bs, mro, ns, qn, hd, sn, sb, ab, col, del⟩ := cd
  dsimp only at hh
  subst hh
  unfold storeInOwnDict ownDictForStores
  repeat (first
    | with_reducible refine store_in_new ?_ ?_
    | with_reducible refine wpAny_loadPart_at hx ?_
    | with_reducible refine lookCls.at ?_
    | wp_step)
  · exact ⟨_, #[], _, (Heap.get?_update_ne _ _ _ _ apart).trans (Heap.get?_push_at rfl rfl), rfl, fun e he => absurd he (by simp), fun _ => rfl⟩
  · intro h' tk' hn' hs
    have there : (hp.push { cls := .type "dict", data := .dict #[] }).get? x = some { cls := .ref C, data := .fields fv } := Heap.get?_push_of_some _ hx
    refine hq h' tk' hp.objs.size (fun b o hb ho => ?_) (Nat.le_refl _) apart ?_ hn'
    · have bne : b ≠ hp.objs.size := Nat.ne_of_lt (Heap.lt_size ho)
      exact (hs.2 b bne).trans ((Heap.get?_update_ne _ _ _ _ hb).trans (Heap.get?_push_of_some _ ho))
    · exact (hs.2 x apart.symm).trans (Heap.get?_update_self _ there rfl)
end
end Pl
end PySem

namespace L2
open PySem PySem.Spec PyProof.Rows
/-- what the top has written of an own error class -/
structure ErrC (K : PySem.W.Frag) (C : Addr) : Prop where
  cls : ∃ nm q N bs bm sn sub ab col dd k0 k1 k2 k3 k5, K.lookup C = some (excClassObj nm q C N bs bm true sn sub ab col dd k0 k1 k2 k3 k5 "Exception.__new__") ∧ PySem.Pl.UnderE bm
  sa : PySem.W.findIn K (.ref C) "__setattr__" = some (some (.builtin "object.__setattr__"))
  exC : PySem.W.subIn K (.ref C) (.type "BaseException") = some true
  tyC : PySem.W.typeIn K (.ref C) = some (.type "type")
  kC : PySem.W.keepIn K (.ref C) = true
section
variable {X : Cx} {pins : List (Addr × Obj)} {σ : St} {H : Hp} {s : Shared} {a C : Addr} {f : Str} {y : V} {u : Value} {Q : Unit → Shared → Prop} {E : Value → Shared → Prop} {A : Around}
theorem err_field (T : ErrC X.K C) (I : Inv X pins σ H s) (e : H a = some (exo a C none)) (hno : PySem.W.findIn X.K (.ref C) f = some none) (ry : RelV y u)
    (h : ∀ dx s', H dx = none → dx ≠ a → Inv X pins σ (upd (upd H dx (exd dx [(f, y)])) a (exo a C (some dx))) s' → Q () s') : wpAny (model X.prog X.w) A (setAttr (.ref a) f u) Q E s := by
  obtain ⟨nm, q, N, bs, bm, sn, sub, ab, col, dd, k0, k1, k2, k3, k5, hC, hbm⟩ := T.cls
  have cl : PySem.W.clsIn X.K C = some ⟨nm, bs, .ref C :: bm, N, q, true, sn, sub, ab, col, false⟩ := by
    unfold PySem.W.clsIn
    rw [hC] <;> rfl
  obtain ⟨t1, there⟩ := exo_at I.hok e
  obtain ⟨hp, g, d, t, os⟩ := s
  refine PySem.W.set_plain I.kIn (ox := PySem.HandSPX.excO C t1) (od := none) ⟨there, rfl, rfl, trivial⟩ T.sa ?_
  refine PySem.Pl.first_field I.kIn there cl (hbm.cons C) rfl hno (fun h' tk' dx k dn dne hx hn => ?_)
  have free : H dx = none := I.hok.fresh dn
  have notDx : ∀ {b : Addr} {o : Obj}, hp.get? b = some o → b ≠ dx := fun q => Nat.ne_of_lt (Nat.lt_of_lt_of_le (Heap.lt_size q) dn)
  have notA : ∀ {b : Addr}, H b = none → b ≠ a := fun n z => by
    rw [z, e] at n
    cases n
  have un : Un X.fs [] H (upd (upd H dx (exd dx [(f, y)])) a (exo a C (some dx))) hp h' :=
    ⟨fun b o q n _ _ => k b o (notA n) q, fun b o q n _ _ => ⟨o.slots, k b o (notA n) q⟩,
      fun b o q n _ => by
        rw [upd_ne (notA n), upd_ne (notDx q)]
        exact n,
      fun b o q _ => by
        by_cases hb : b = a
        · subst hb
          exact ⟨_, hx⟩
        · exact ⟨o, k b o hb q⟩,
      fun b xs q => by
        rw [upd_ne (at_ne e q exo_tup), upd_ne (ne_of_none q free)]
        exact q,
      fun b o v q => by
        rw [upd_ne (at_ne e q exo_frz), upd_ne (ne_of_none q free)]
        exact q,
      fun b ps q => ⟨#[], by
        rw [upd_ne (at_ne e q exo_tbl), upd_ne (ne_of_none q free), q]
        simp⟩⟩
  refine h dx _ free dne (I.un (t' := tk') un fun b o q => ?_)
  by_cases hb : b = a
  · subst hb
    rw [upd_same] at q
    cases q
    exact exo_ok hx
  rw [upd_ne hb] at q
  by_cases hd : b = dx
  · subst hd
    rw [upd_same] at q
    cases q
    exact exd_ok hn (relO_put (fs := []) ry fun _ => True.intro)
  rw [upd_ne hd] at q
  have ownNe : ∀ {c : Addr}, H c = some (.own b) → c ≠ a := fun hc => at_ne e hc exo_own
  refine (I.hok b o q).stay (fun c v hc z => k c v ?_ z) (fun c hc => ?_) (fun c xs hc => ?_)
  · rcases hc with hc | hc
    · rw [hc]
      exact hb
    · exact ownNe hc
  · rw [upd_ne (ownNe hc), upd_ne (ne_of_none hc free)]
    exact hc
  · rw [upd_ne (at_ne e hc exo_tup), upd_ne (ne_of_none hc free)]
    exact hc
end
/-- self.f = e, self an own error without fields -/
def tErrF (K : PySem.W.Frag) (f : Str) (to te : TE) : TS := fun D σ H => te σ H fun y H1 => to σ H1 fun x H2 => ∃ a C : Addr, x = .ref a ∧ ErrC K C ∧ PySem.W.findIn K (.ref C) f = some none ∧ H2 a = some (exo a C none) ∧
  ∀ dx, H2 dx = none → dx ≠ a → D.nx σ (upd (upd H2 dx (exd dx [(f, y)])) a (exo a C (some dx)))
section
variable {X : Cx} {o e : Expr} {es : List Expr} {to te : TE} {t : TA} {f x : Str} {p p' p1 p2 pos : Pos} {CX : CXT} {k : Nat} {C fn : Addr} {mc : Value} {fd : FuncData} {ps : List Str} {sp : Sp} {E : XK}
theorem ps_errF (ho : PE X o to) (he : PE X e te) (hs : swapsWith e (some (.Attribute o f p')) pos.line X.env = pure false := by rfl) : PS X (.Assign [.Attribute o f p'] e pos) (tErrF X.K f to te) :=
  ⟨fun pins s σ H D I h => plainObj_wpAny_Assign_Attribute (thn (he.run pins s σ H _ I h) fun v s1 ⟨y, H1, I1, r1, q1⟩ => thn (ho.run pins s1 σ H1 _ I1 q1) fun u s2 ⟨x, H2, I2, r2, a, C, ex, T, hno, ea, q⟩ => by
    subst ex
    obtain rfl : u = Value.ref a := r2
    exact err_field T I2 ea hno r1 fun dx s' n ne J => ⟨σ, _, J, q dx n ne⟩) hs⟩
/-- Base.__init__(self, ..), Base a class of the program's own -/
theorem pe_base {pl : Sem Bool} (r : ClX.CRead X.K C mc) (c : ClX.CVal X.K C mc "__init__" (.ref fn) (.ref fn)) (F : FnOk X.prog X.w X.K X.mg X.base CX k fn fd ps sp) (hr : Room k X.A) (kp : PySem.W.keepIn X.K (.ref fn) = true)
    (hb : Binds X.K fd ps []) (hx : Passes CX X E) (hg : Gl X x) (hm : X.mg x = some (.ref C)) (ha : PA X (e :: es) t) (hdb : (x == ("__debug__" : Str)) = false := by decide)
    (hc : eval (.Call (.Attribute (.Name x p1) "__init__" p2) (e :: es) [] pos) X.env = (do
      let ov ← eval (.Name x p1) X.env
      standAt p2.atName
      let (f, first) ← holding [ov] (getMethod ov "__init__" pl)
      callWith pos f first (backTo pos (starEach (e :: es) X.env)) (backToKw pos (keywordEach [] X.env))) := by rfl)
    (hst : starEach (e :: es) X.env = (false, eval e X.env) :: starEach es X.env := by rfl) (hpl : (backTo pos (starEach es X.env)).any (·.1) = false := by rfl) :
    PE X (.Call (.Attribute (.Name x p1) "__init__" p2) (e :: es) [] pos) (tCall sp [] E t) := by
  refine ⟨fun pins s σ H Q I h => PySem.W.methodCall_KW (pl := pl) (ld_glob I hg hm ?_ hdb) hc⟩
  refine PySem.W.method_cls (I.tok _).kIn r.ga (ClX.getcval_ok (I.tok _) r c fun s' I' => ?_)
  exact PySem.W.callWith_K (first := []) (h₀ := X.base) I.ok.mod.kin kp (thn (ha.run pos pins s' σ H _ I' h) fun us s1 ⟨vs, H1, I1, rv, q⟩ => ⟨I1.kIn, run_fn F hr hb .nil hx I1 rv q⟩) hst hpl
/-- C(), C an own error whose __init__ (at fI) keeps sp: it asks for the error at a, and leaves its dict -/
def tMkE (C : Addr) (sp : Sp) : St → Hp → XK → Prop := fun _ H Q => ∀ a, H a = none → sp [.ref a] (upd H a (exo a C none))
  (fun v H2 => v = .non ∧ ∃ (d : Addr) (fs : List (Str × V)), H2 a = some (exo a C (some d)) ∧ H2 d = some (exd d fs) ∧ H d = none ∧ Q (.ref C) (some d) (upd (del H2 a) d (.xd fs))) (fun _ _ _ => False)
theorem pmk_err {fI : Addr} (T : ErrC X.K C) (iC : PySem.W.findIn X.K (.ref C) "__init__" = some (some (.ref fI))) (tI : PySem.W.typeIn X.K (.ref fI) = some (.type "function"))
    (F1 : FnOk X.prog X.w X.K X.mg X.base CX k fI fd ps sp) (hr : Room (k + 1) X.A) (hb : Binds X.K fd ps []) (hx : Passes CX X (fun _ _ _ => False)) (hg : Gl X x) (hm : X.mg x = some (.ref C))
    (hdb : (x == ("__debug__" : Str)) = false := by decide) : PMk X (.Call (.Name x p) [] [] pos) (tMkE C sp) := by
  intro pins s σ H Q I h
  obtain ⟨nm, q, N, bs, bm, sn, sub, ab, col, dd, k0, k1, k2, k3, k5, hC, hbm⟩ := T.cls
  refine wpAny_Call_Name_kw (ld_glob I hg hm (PySem.W.callWith_K0 I.kIn T.kC ?_) hdb)
  show wpAny _ _ (call (.ref C) []) _ _ _
  obtain ⟨hp, g, dr, tk, os⟩ := s
  have big : hp.objs.size ≤ hp.objs.size + 1 := Nat.le_succ _
  have free : H (hp.objs.size + 1) = none := I.hok.fresh big
  have asked := h (hp.objs.size + 1) free
  have old : ∀ b o, hp.get? b = some o → ((hp.push (PySem.W.kdv_tup [])).push (PySem.HandSPX.excO C hp.objs.size)).get? b = some o := fun b o e => Heap.get?_push_of_some _ (Heap.get?_push_of_some _ e)
  have new : ((hp.push (PySem.W.kdv_tup [])).push (PySem.HandSPX.excO C hp.objs.size)).get? (hp.objs.size + 1) = some (PySem.HandSPX.excO C hp.objs.size) := by heap_get
  have J : Inv X pins σ (upd H (hp.objs.size + 1) (exo (hp.objs.size + 1) C none)) ⟨(hp.push (PySem.W.kdv_tup [])).push (PySem.HandSPX.excO C hp.objs.size), g, dr, tk, os⟩ := I.laid old big (exo_ok new)
  have rv : Vals [V.ref (hp.objs.size + 1)] [Value.ref (hp.objs.size + 1)] := .cons rfl .nil
  have len : [Value.ref (hp.objs.size + 1)].length = ps.length := by
    have e := F1.len _ _ _ _ asked
    exact e
  have bind : BindsTo _ fd ⟨[Value.ref (hp.objs.size + 1)], []⟩ _ := hb _ [Value.ref (hp.objs.size + 1)] J.kIn len
  have run := F1.run _ X.stack _ _ ⟨[Value.ref (hp.objs.size + 1)], []⟩ [Value.ref (hp.objs.size + 1)] _ _ (fun _ _ _ => False) (hr.make C [] []) (J.env0.make C [] []) bind rv asked
  refine wpAny_call (PySem.HandSPX.call_own F.excBase_Exception (fun n => hbm.has n) (I.kIn _ _ hC) (PySem.W.looks_findIn I.kIn iC) (fun self => PySem.W.bind_fn I.kIn self tI) (by rw [sizeLine_eq]; exact Nat.zero_le _) (codeAny_mono run fun r s' hq => ?_))
  rcases r with er | (uv | _ | _ | _)
  · exact hx pins σ _ _ er s' J hq
  all_goals first | exact False.elim hq | skip
  obtain ⟨v, H2, os2, bare2, un2, hok2, rv2, ev, d, fs, ea, ed, hd1, q2⟩ := hq
  subst ev
  obtain ⟨h2, g2, d2, t2, os'⟩ := s'
  exact ⟨rv2, mk_end (raises_own T.exC T.tyC) I big old un2 hok2 os2 bare2 ea ed hd1 q2⟩
end
end L2

namespace PySem
/-! ### a comprehension whose element may raise -/
/-- what is left of the block: its names go; where it raised, the error is passed on at the block's own frame -/
def blockEnd (M : Model) (A : Around) (E : Value → Shared → Prop) (Q : Value → Shared → Prop) (acc : Value) (ce : Env) (r : Result) (s' : Shared) : Prop :=
  ∃ m, s'.heap.Ns ce.locals m ∧ ∀ h', Heap.SameBut ce.locals s'.heap h' → match r with
    | .ok _ => Q acc { s' with heap := h' }
    | .error x => wpAny M A (passOn "comprehension.variables-let-go" x ce : Sem Value) (fun _ _ => False) E { s' with heap := h' }
theorem comprehension_mayRaise {M : Model} {A : Around} {E : Value → Shared → Prop} {s : Shared} {env : Env} {e : Expr} {scope : Scope} {pos : Pos} {newAcc first : Sem Value} {g : Comprehension} {gs : List Comprehension} {cl : List (Str × Addr)}
    {Q : Value → Shared → Prop} (hg : clausesOf e = g :: gs) (plain : ∀ x, foldedSetIterable g.iter env x = pure x) (captured : closureFor scope env = pure cl) (isFun : scope.kind = .function)
    (names : ∀ x ∈ scope.names, x.2 = .local → scope.names.lookup x.1 = some .local)
    (h : wpAny M A first (fun x s1 => wpAny M A (pyIter x) (fun it s2 => wpAny M A newAcc (fun acc s3 => wpAny M A (newFunctionEnv scope env.globals cl [] env.qual none .none (some env))
      (fun ce s4 => codeAny M A (.compStart e 0 it acc { ce with scope := relabel scope env }) (blockEnd M A E Q acc { ce with scope := relabel scope env }) s4) E s3) E s2) E s1) E s) :
    wpAny M A (comprehension e scope env pos newAcc false first none) Q E s := by
  unfold comprehension
  rw [captured, hg]
  refine wpAny_bind (wpAny_mono h (fun x s1 h1 => ?_) fun _ _ z => z)
  refine wpAny_bind (wpAny_standAt (wpAny_bind (wpAny_of_eq (plain x) ?_)))
  refine wpAny_bind (wpAny_holding (wpAny_mono h1 (fun it s2 h2 => ?_) fun _ _ z => z))
  refine wpAny_standIf (wpAny_bind (wpAny_mono h2 (fun acc s3 h3 => ?_) fun _ _ z => z))
  refine wpAny_bind (wpAny_pure (wpAny_bind (wpAny_mono h3 (fun ce s4 h4 => ?_) fun _ _ z => z)))
  dsimp only
  have local_ : ∀ x ∈ (scope.names.filter fun x => (x.2 == .local || x.2 == .cell) && x.1 != (".0" : Str)).reverse, x.2 = .local → Env.kindOf { ce with scope := relabel scope env } x.1 = some .local :=
    fun x hx hl => lookup_relabel_local (names x (List.mem_filter.mp (List.mem_reverse.mp hx)).1 hl)
  refine wpAny_holding (wpAny_bind (wpAny_attempt (wpAny_holding (wpAny_run (codeAny_mono h4 fun r s5 h5 => ?_)))))
  obtain ⟨m, hn, h6⟩ := h5
  cases r with
  | ok f => exact wpAny_bind (wpAny_holding (wpAny_comp_letGo (cenv := { ce with scope := relabel scope env }) isFun _ s5 m local_ hn fun h' m' _ hs => wpAny_pure (h6 h' hs)))
  | error x => exact wpAny_bind (wpAny_holding (wpAny_comp_letGo (cenv := { ce with scope := relabel scope env }) isFun _ s5 m local_ hn fun h' m' _ hs => wpAny_mono (h6 h' hs) (fun _ _ z => z.elim) fun _ _ z => z))
theorem noteFrame_same {e : Value} {a b : Env} (h : a.frame = b.frame) : noteFrame e a = noteFrame e b := by
  unfold noteFrame frameOf
  rw [h]
theorem funFrames_except {base B h h' : Heap} {C : Addr} {oc : Obj} (hC : base.get? C = some oc) (k : ∀ b, b ≠ C → h'.get? b = h.get? b) (hB : ∀ b, base.get? b = none → B.get? b = none) : ∀ {l : List Env}, h.FunFrames base l → h'.FunFrames B l
  | [], _ => trivial
  | env :: l, x => by
    obtain ⟨hk, ⟨L, o, hf, hn, ho, hd⟩, hr⟩ := x
    have ne : L ≠ C := fun z => by
      rw [z, hC] at hn
      cases hn
    exact ⟨hk, ⟨L, o, hf, hB L hn, (k L ne).trans ho, hd⟩, funFrames_except hC k hB hr⟩
end PySem
namespace L2
open PySem PySem.Spec PyProof.Rows
section
variable {X : Cx} {pins : List (Addr × Obj)} {σ : St} {H : Hp} {s s' : Shared} {W : WX} {E : XK}
/-- an error that flew in and is in the hand of X's own frame -/
theorem XE.inHand (I : Inv X pins σ H s) {u : Value} {a : Addr} {B : Heap} {H' : Hp} {cls : Value} {d : Option Addr} (eu : u = .ref a) (held : HandSPX.HeldZ B X.stack a (Zc cls d) X.env.locals s'.heap) (hok : HOk X.prog X.w H' B)
    (ub : UB (frs X.stack) H H' s.heap B s'.heap) (na : H' a = none) (os : s'.os = s.os) (ag : AllBare s'.gens) (w : W cls d σ H') : XE X W u s' := by
  subst eu
  obtain ⟨G, inG, outG⟩ := restrict s'.heap fun b => (B.get? b).isSome || decide (b ∈ frs X.stack)
  have stays : B.StaysIn s'.heap := held.1
  have ground : ∀ b o, B.get? b = some o → G.get? b = some o := fun b o e => (inG b (by simp [e])).trans (stays b o e)
  have frame : ∀ b, b ∈ frs X.stack → G.get? b = s'.heap.get? b := fun b hb => inG b (by simp [hb])
  have which : ∀ b o, G.get? b = some o → s'.heap.get? b = some o ∧ (B.get? b = some o ∨ b ∈ frs X.stack) := fun b o e => by
    cases q : ((B.get? b).isSome || decide (b ∈ frs X.stack)) with
    | false =>
      rw [outG b q] at e
      cases e
    | true =>
      rw [inG b q] at e
      refine ⟨e, ?_⟩
      rw [Bool.or_eq_true] at q
      rcases q with q | q
      · obtain ⟨o', q⟩ := Option.isSome_iff_exists.mp q
        have z := stays b o' q
        rw [e] at z
        cases z
        exact .inl q
      · exact .inr (of_decide_eq_true q)
  have un : Un (frs X.stack) [] H H' s.heap G :=
    ⟨fun b o e n hb _ => ground b o (ub.keep b o e n hb), fun b o e n hb _ => by
        obtain ⟨sl, q⟩ := ub.slot b o e hb
        exact ⟨sl, (frame b hb).trans q⟩,
      fun b o e n _ => ub.free b o e n, fun b o e _ => by
        by_cases hb : b ∈ frs X.stack
        · obtain ⟨sl, q⟩ := ub.slot b o e hb
          exact ⟨_, (frame b hb).trans q⟩
        · obtain ⟨o', q⟩ := ub.there b o e hb
          exact ⟨o', ground b o' q⟩,
      ub.tups, ub.frzs, ub.tbls⟩
  have J : Inv X pins σ H' { s with heap := G, gens := s'.gens, drawn := s'.drawn, toks := s'.toks } := I.call (ch := []) un (hok.kept ground) ag (fun _ z => nomatch z)
  refine ⟨a, B, _, pins, σ, H', cls, d, rfl, J, fun b o e hb => ?_, Heap.UpToSlots.of_keeps fun b o e => (which b o e).1, .inr (.inr held), na, os, ag, w⟩
  rcases (which b o e).2 with z | z
  · exact z
  · exact absurd z hb
/-- the block's frame notes the error of a call, its names go, the error goes on -/
theorem block_raises {C : Addr} {ce : Env} {D : Value} {Qf : Value → Shared → Prop} (hs : X.stack = X.env :: X.outer) (hf : X.env.frame = some X.env.locals) (hcf : ce.frame = X.env.frame) (hcl : ce.locals = C) (tk : Takes X W)
    (I : Inv X pins σ H s) (fC : FpOk X pins H C) {m : Str → Option Value} (hn : s.heap.Ns C m) (nF : C ∉ frs X.stack) (hW : ∀ cls d H', E cls d H' → W cls d σ H') {u : Value} (c : CX X.prog X.w X.stack H s E u s') :
    notedBy (model X.prog X.w) X.A ce (fun e s1 => blockEnd (model X.prog X.w) X.A X.xe Qf D ce (.error e) s1) u s' := by
  obtain ⟨a, B, H', cls, d, rfl, fl, hok, ub, na, os, ag, hE⟩ := c
  have hfr : X.A.frames = some (X.env :: X.outer) := by rw [I.ok.frames, hs]
  have inB : ∀ o, s.heap.get? C = some o → B.get? C = some o := fun o e => ub.keep C o e fC.1 nF
  obtain ⟨oC, esC, epC, hoC, restC⟩ := id hn
  have hBC := inB oC hoC
  have H'C : H' C = none := ub.free C oC hoC fC.1
  show wpAny _ _ (noteFrame (.ref a) ce) _ _ _
  rw [noteFrame_same hcf]
  rw [hs] at fl
  refine HandSPX.looks_onZ Zc.steady hfr hf fl fun h1 hh1 up1 => ?_
  have st1 : B.StaysIn h1 := hh1.1
  refine ⟨m, ?_, fun h2 sb => ?_⟩
  · show h1.Ns ce.locals m
    rw [hcl]
    exact hn.at fun o e => st1 C o (inB o e)
  · show wpAny _ _ (PySem.passOn _ (.ref a) ce : Sem Value) _ _ { s' with heap := h2 }
    rw [hcl] at sb
    have other : ∀ b, b ≠ C → h2.get? b = h1.get? b := fun b hb => sb.2 b hb
    obtain ⟨B2, inB2, outB2⟩ := restrict B fun b => decide (b ≠ C)
    have toB : ∀ b o, B2.get? b = some o → b ≠ C ∧ B.get? b = some o := fun b o e => by
      by_cases hb : b = C
      · rw [outB2 b (by simp [hb])] at e
        cases e
      · exact ⟨hb, (inB2 b (by simp [hb])).symm.trans e⟩
    have noB : ∀ b, B.get? b = none → B2.get? b = none := fun b e => by
      cases q : B2.get? b with
      | none => rfl
      | some o =>
        rw [(toB b o q).2] at e
        cases e
    obtain ⟨_, aB, ff, oe, vs, T, oT, ts, he, hz, hd, hv1, hTn, hTe, hT, hdT, hv3⟩ := id hh1
    have aC : a ≠ C := fun z => by
      rw [z, hBC] at aB
      cases aB
    have TC : T ≠ C := fun z => by
      rw [z, hBC] at hTn
      cases hTn
    have he2 : h2.get? a = some oe := (other a aC).trans he
    have hh2 : HandSPX.HeldZ B2 (X.env :: X.outer) a (Zc cls d) X.env.locals h2 :=
      ⟨fun b o e => (other b (toB b o e).1).trans (st1 b o (toB b o e).2), noB a aB, funFrames_except hBC other noB ff, oe, vs, T, oT, ts, he2, hz, hd, hv1, noB T hTn, hTe, (other T TC).trans hT, hdT, hv3⟩
    unfold PySem.passOn
    refine wpAny_bind (wpAny_field he2 hd hv1 ?_)
    rw [if_neg (show ¬ ((Value.ref T == Value.none) = true) from by simp)]
    have last : wpAny (model X.prog X.w) X.A (setFlight (.ref a) ce.frame) (fun _ s4 => wpAny (model X.prog X.w) X.A (throw (.ref a) : Sem Value) (fun _ _ => False) X.xe s4) X.xe { s' with heap := h2 } := by
      rw [hcf, hf]
      refine HandSPX.setFlight_onZ hh2 fun h3 hh3 up3 => wpAny_throw (tk _ _ ?_)
      -- the state without the block's names
      obtain ⟨G0, inG0, outG0⟩ := restrict s.heap fun b => decide (b ≠ C)
      have toS : ∀ b o, G0.get? b = some o → b ≠ C ∧ s.heap.get? b = some o := fun b o e => by
        by_cases hb : b = C
        · rw [outG0 b (by simp [hb])] at e
          cases e
        · exact ⟨hb, (inG0 b (by simp [hb])).symm.trans e⟩
      have J : Inv X pins σ H { s with heap := G0, toks := s.toks } := I.turned (it := C) (fun b o hb e => (inG0 b (by simpa using hb)).trans e) fC.1 fC.2.1 fC.2.2.2.1 fC.2.2.2.2.1 fC.2.2.2.2.2
      have ne' : ∀ {b : Addr} {o : HO}, H' b = some o → b ≠ C := fun e z => by
        rw [z, H'C] at e
        cases e
      have hok2 : HOk X.prog X.w H' B2 := fun b o q => (hok b o q).stay (fun c v hc e => by
        have cC : c ≠ C := by
          rcases hc with z | z
          · rw [z]
            exact ne' q
          · exact ne' z
        exact (inB2 c (by simp [cC])).trans e) (fun _ z => z) fun _ _ z => z
      have ub2 : UB (frs X.stack) H H' G0 B2 h3 :=
        ⟨fun b o e n hb => (inB2 b (by simp [(toS b o e).1])).trans (ub.keep b o (toS b o e).2 n hb), fun b o e hb => by
            obtain ⟨bC, e0⟩ := toS b o e
            obtain ⟨_, o0, e1, nf⟩ := I.stack.mem hb
            rw [e0] at e1
            cases e1
            obtain ⟨sl, q1⟩ := ub.slot b o e0 hb
            obtain ⟨sl1, q2⟩ := up1 b _ q1 nf
            obtain ⟨sl2, q3⟩ := up3 b _ ((other b bC).trans q2) nf
            exact ⟨sl2, q3⟩,
          fun b o e n => ub.free b o (toS b o e).2 n, fun b o e hb => by
            obtain ⟨o', q⟩ := ub.there b o (toS b o e).2 hb
            exact ⟨o', (inB2 b (by simp [(toS b o e).1])).trans q⟩,
          ub.tups, ub.frzs, ub.tbls⟩
      exact XE.inHand J rfl (by rw [hs]; exact hh3) hok2 ub2 na os ag (hW _ _ _ hE)
    first
      | exact wpAny_bind (wpAny_pure (wpAny_bind last))
      | exact wpAny_bind last
end
section
variable {X : Cx} {W : WX}
/-- what a call of the block's element lets out -/
abbrev blkX (Xb : Cx) (E : XK) (pins : List (Addr × Obj)) : Value → Shared → Prop := fun u s' => ∃ σ H s, Inv Xb pins σ H s ∧ CX Xb.prog Xb.w Xb.stack H s E u s'
theorem pe_lcX {elt tg iter : Expr} {ifs : List Expr} {scope : Scope} {own : List (Str × Nat)} {pos : Pos} {wi : TI} {g : TG} {tt : TT} {te : XK → TE} (hc : X.calm = true) (hN : X.N.Nodup) (hst : X.stack = X.env :: X.outer) (hf : X.env.frame = some X.env.locals) (tk : Takes X W)
    (hi : PI X tg iter wi) (ok : BlkOk X.N X.env.scope scope own)
    (hg : ∀ (s : Shared) (H : Hp) (C : Addr) (cl : List (Str × Addr)) (fp : List Addr), PG (X.blk s H scope (compEnvC scope cl C X.env) fp) tg g)
    (ht : ∀ (s : Shared) (H : Hp) (C : Addr) (cl : List (Str × Addr)) (fp : List Addr), PTs (X.blk s H scope (compEnvC scope cl C X.env) fp) ifs tt)
    (he : ∀ (s : Shared) (H : Hp) (C : Addr) (cl : List (Str × Addr)) (fp : List Addr) (pn : List (Addr × Obj)) (xe : Value → Shared → Prop) (E : XK),
      (∀ σ, PassesAt (L2.CX X.prog X.w) ((X.blk s H scope (compEnvC scope cl C X.env) fp).tr pn xe) σ E) → PE ((X.blk s H scope (compEnvC scope cl C X.env) fp).tr pn xe) elt (te E))
    (plain : ∀ x, foldedSetIterable iter X.env x = pure x := by intro _; rfl) :
    PE X (.ListComp elt [⟨tg, iter, ifs, 0⟩] scope pos) (fun σ H Q => tLc wi g tt (te fun cls d H' => W cls d σ H') (own.map (·.2)) σ H Q) := by
  refine ⟨fun pins s σ H Q I h => ?_⟩
  rw [eval_ListComp]
  have free_ : ∀ y ∈ scope.names, y.2 = .free → ∃ c, X.env.cells.lookup y.1 = some c := fun y hy e => I.ok.has _ (ok.free y hy e)
  refine comprehension_mayRaise rfl plain (closure_ok free_) ok.kind (fun y hy e => by rw [ok.uniq y hy, e]) (thn (hi.run pins s σ H _ I h) fun xv s1 hx => thn hx fun itv s2 h2 => ?_)
  obtain ⟨it, fp, tn, J, H2, e, I2, T, st2, f2, q⟩ := h2
  subst e
  refine wpAny_newObj_type (newEnv_comp ?_) (by show 0 ≤ sizeLine; decide)
  generalize hD : s2.heap.objs.size = D
  obtain ⟨Wt, ⟨m0, w0⟩, turn⟩ := q D (I2.hok.fresh (Nat.le_of_eq hD))
  generalize hs3 : ({ s2 with heap := s2.heap.push { cls := .type "list", data := .seq ([] : List Value).toArray } } : Shared) = s3
  have heap3 : s3.heap = s2.heap.push { cls := .type "list", data := .seq ([] : List Value).toArray } := by rw [← hs3]
  have I3 : Inv X pins σ (upd H2 D (.lst [])) s3 := by
    rw [← hs3]
    refine I2.laid (t' := s2.toks) (fun b o e => Heap.get?_push_of_some _ e) (Nat.le_of_eq hD) ⟨Nat.zero_le _, [], 0, .nil, ?_⟩
    rw [← hD]
    exact Heap.get?_push_size _ rfl
  have fresh3 : ∀ b ∈ fp, FpOk X pins (upd H2 D (.lst [])) b ∧ b < s3.heap.objs.size := fun b hb => by
    obtain ⟨o, e, _⟩ := T.obj _ _ st2 b hb
    have lt := Heap.lt_size e
    refine ⟨⟨?_, (f2 b hb).2⟩, ?_⟩
    · rw [upd_ne (by rw [← hD]; exact Nat.ne_of_lt lt)]
      exact (f2 b hb).1
    · rw [heap3, Heap.size_push]
      exact Nat.lt_succ_of_lt lt
  have st3 : tn 0 s3.heap := T.keep _ _ _ st2 fun b _ o e => by
    rw [heap3]
    exact Heap.get?_push_of_some _ e
  have I4 := block_start I3 ok hN fresh3
  have pg := hg s3 (upd H2 D (.lst [])) s3.heap.objs.size (cellsFrom (s3.heap.objs.size + 1) scope.names (cloFrom X.env.cells scope.names [])) fp
  have pt := ht s3 (upd H2 D (.lst [])) s3.heap.objs.size (cellsFrom (s3.heap.objs.size + 1) scope.names (cloFrom X.env.cells scope.names [])) fp
  have pe := he s3 (upd H2 D (.lst [])) s3.heap.objs.size (cellsFrom (s3.heap.objs.size + 1) scope.names (cloFrom X.env.cells scope.names [])) fp
  show codeAny _ _ (.compStart (.ListComp elt [⟨tg, iter, ifs, 0⟩] scope pos) 0 (.ref it) (.ref D) (compEnvC scope (cellsFrom (s3.heap.objs.size + 1) scope.names (cloFrom X.env.cells scope.names [])) s3.heap.objs.size X.env))
    (blockEnd (model X.prog X.w) X.A X.xe (EP X pins σ Q) (.ref D) (compEnvC scope (cellsFrom (s3.heap.objs.size + 1) scope.names (cloFrom X.env.cells scope.names [])) s3.heap.objs.size X.env)) { s3 with heap := pushCells (s3.heap.push { cls := .type "dict", data := .dict #[] }) scope.names }
  have unheld : ∀ b ∈ fp, (upd H2 D (.lst [])) b = none := fun b hb => (fresh3 b hb).1.1
  have frm : (compEnvC scope (cellsFrom (s3.heap.objs.size + 1) scope.names (cloFrom X.env.cells scope.names [])) s3.heap.objs.size X.env).frame = X.env.frame := rfl
  have loc_ : (compEnvC scope (cellsFrom (s3.heap.objs.size + 1) scope.names (cloFrom X.env.cells scope.names [])) s3.heap.objs.size X.env).locals = s3.heap.objs.size := rfl
  generalize compEnvC scope (cellsFrom (s3.heap.objs.size + 1) scope.names (cloFrom X.env.cells scope.names [])) s3.heap.objs.size X.env = ce at I4 pg pt pe frm loc_ ⊢
  generalize upd H2 D (.lst []) = H3 at I3 I4 pg pt pe w0 unheld fresh3
  generalize hs4 : ({ s3 with heap := pushCells (s3.heap.push { cls := .type "dict", data := .dict #[] }) scope.names } : Shared) = s4 at I4 ⊢
  have st4 : tn 0 s4.heap := T.keep _ _ _ st3 fun b _ o e => by
    rw [← hs4]
    exact pushCells_keeps _ _ _ _ (Heap.get?_push_of_some _ e)
  have own_ : ∀ {σ' : St} {H' : Hp} {s' : Shared}, Inv (X.blk s3 H3 scope ce fp) [] σ' H' s' → (∀ b ∈ fp, H' b = none) → ∀ b ∈ fp, FpOk (X.blk s3 H3 scope ce fp) [] H' b := fun I' hn b hb =>
    ⟨hn b hb, (I'.ok.exf b hb).1, I'.ok.exfs b hb, .inl hb, fun x c e => (I'.ok.exf b hb).2 x c e, fun p hp => absurd (show p ∈ ([] : List (Addr × Obj)) ++ [] from hp) (by simp)⟩
  -- from a state of the block to one of the def
  have back : ∀ {pn' : List (Addr × Obj)} {σ' : St} {H' : Hp} {s' : Shared}, Inv (X.blk s3 H3 scope ce fp) pn' σ' H' s' → Inv X pins σ H' s' ∧ FpOk X pins H' s3.heap.objs.size ∧ ∃ m, s'.heap.Ns s3.heap.objs.size m := fun {pn' σ' H' s'} I' => by
    have z : H' ce.locals = none := I'.free
    rw [loc_] at z
    obtain ⟨m, hn, _⟩ := I'.loc
    have hn : s'.heap.Ns ce.locals m := hn
    rw [loc_] at hn
    exact ⟨I3.call' (ch := fp) I'.os I'.base I'.hok I'.bare fun b hb => ⟨(fresh3 b hb).1.2.2.2.1, (fresh3 b hb).1.2.1, (fresh3 b hb).1.2.2.2.2.1, (fresh3 b hb).1.2.2.2.2.2⟩, I3.fpOk (Nat.le_refl _) z, m, hn⟩
  have notFrame : s3.heap.objs.size ∉ frs X.stack := fun z => by
    obtain ⟨_, o, e, _⟩ := I3.stack.mem z
    exact Nat.lt_irrefl _ (Heap.lt_size e)
  have loop : codeAny (model X.prog X.w) X.A (.compLoop (.ListComp elt [⟨tg, iter, ifs, 0⟩] scope pos) 0 (.ref it) (.ref D) ce) (blockEnd (model X.prog X.w) X.A X.xe (EP X pins σ Q) (.ref D) ce) s4 := by
    refine compLoop_any (fun n s' => ∃ i H', Inv (X.blk s3 H3 scope ce fp) [] (wipe σ (own.map (·.2))) H' s' ∧ tn i s'.heap ∧ (∀ b ∈ fp, H' b = none) ∧ Wt i n H') ?_ m0 ⟨0, H3, I4, st4, unheld, w0⟩
    rintro n s5 ⟨i, H5, I5, st5, n5, w5⟩
    rcases turn i n H5 w5 with ⟨stop, qq⟩ | ⟨go, Nx, hNx, step⟩
    · refine thnF (T.done (X.blk s3 H3 scope ce fp) rfl rfl rfl hc i [] s5 _ H5 (fun _ _ => False) I5 (own_ I5 n5) st5 stop) fun r s6 ⟨hr, I6⟩ => ?_
      subst hr
      obtain ⟨I7, fC, m, hn⟩ := back I6
      refine ⟨m, by rw [loc_]; exact hn, fun h' sb => ?_⟩
      rw [loc_] at sb
      obtain ⟨f0, f1, _, f3, f4, f5⟩ := fC
      exact ⟨.ref D, H5, I7.turned (t' := s6.toks) (fun b o hb e => (sb.2 b hb).trans e) f0 f1 f3 f4 f5, rfl, qq⟩
    · refine thnF (T.item (X.blk s3 H3 scope ce fp) rfl rfl rfl hc i [] s5 _ H5 (fun _ _ => False) I5 (own_ I5 n5) st5 go) fun r s6 ⟨u, hr, h6⟩ => ?_
      subst hr
      refine thnF h6 fun _ s7 ⟨x, H7, I7, r7, y7, st7, n7⟩ => ?_
      have I7' := I7.pinned (own_ I7 n7) (T.obj _ _ st7)
      refine thnF (pg.run _ s7 _ H7 x u _ I7' r7 (step x H7 y7)) fun _ s8 ⟨σ8, H8, I8, hw8, q8⟩ => ?_
      refine thnF (pt.run _ s8 σ8 H8 _ I8 q8) fun b s9 ⟨H9, I9, q9⟩ => ?_
      have next : ∀ {s' : Shared} {H' : Hp}, Inv (X.blk s3 H3 scope ce fp) ([] ++ pinsAt fp s7.heap) σ8 H' s' → Nx H' →
          ∃ m, m < n ∧ ∃ i H', Inv (X.blk s3 H3 scope ce fp) [] (wipe σ (own.map (·.2))) H' s' ∧ tn i s'.heap ∧ (∀ b ∈ fp, H' b = none) ∧ Wt i m H' := fun {s' H'} I' nx => by
        obtain ⟨m', hm, w'⟩ := hNx H' nx
        have still : ∀ b ∈ fp, ∀ o, s7.heap.get? b = some o → s'.heap.get? b = some o ∧ H' b = none := fun b hb o e =>
          have z := I'.pin (b, o) (List.mem_append_right _ (List.mem_append_right _ (mem_pinsAt hb e)))
          ⟨z.1, z.2.1⟩
        refine ⟨m', hm, i + 1, H', (I'.unpinned (pins := [])).weak (by rw [← hw8, wipe_length]) (fun j v e => ?_), T.keep _ _ _ st7 fun b hb o e => (still b hb o e).1, fun b hb => ?_, w'⟩
        · rw [← hw8] at e
          exact (wipe_some e).1
        · obtain ⟨o, e, _⟩ := T.obj _ _ st7 b hb
          exact (still b hb o e).2
      cases b with
      | false =>
        simp only [Bool.false_eq_true, if_false] at q9 ⊢
        exact next I9 q9
      | true =>
        simp only [if_true] at q9 ⊢
        -- the element, in a context whose errors are a call's
        generalize hp9 : ([] ++ pinsAt fp s7.heap : List (Addr × Obj)) = p9 at I9 next
        have okb := I9.ok
        have pe' := pe ((X.blk s3 H3 scope ce fp).pn ++ p9) (blkX (X.blk s3 H3 scope ce fp) (fun cls d H' => W cls d σ H') p9) (fun cls d H' => W cls d σ H') fun σ' pins' H' s' e s'' Ix cx => ⟨σ', H', s', Ix.ofTry okb, cx⟩
        refine wpAny_mono (pe'.run [] s9 σ8 H9 _ (I9.toTry _) q9) (fun z s10 hz => ?_) fun e s10 hz => ?_
        · obtain ⟨yv, H10, I10, r10, acc, hD10, hz10, nx⟩ := hz
          exact app_ok (X := X.blk s3 H3 scope ce fp) (I10.ofTry okb) hD10 hz10 r10 fun s11 I11 => next I11 nx
        · obtain ⟨σ', H', s', Ib, cx⟩ := hz
          obtain ⟨Id, fC, m, hn⟩ := back Ib
          exact block_raises hst hf frm loc_ tk Id fC hn notFrame (fun _ _ _ w => w) cx
  exact codeAny_compStart_list loop (T.self X.A 0 _ _ _ st4 loop)
end
end L2

namespace L2
open PySem PySem.Spec PyProof.Rows
/-! ### enumerate(list, start=k), the list as it stands all the time -/
def ItE (K : PySem.W.Frag) (a : Addr) (xs : List V) (c : Int) : It :=
  ⟨fun i H => i < xs.length ∧ SqL K H a xs, fun i H v H' => ∃ T x, v = .ref T ∧ H T = none ∧ H' = upd H T (.tup [.int (c + (i : Nat)), x]) ∧ xs[i]? = some x, fun i H => SqL K H a xs ∧ xs.length ≤ i⟩
theorem turn_enumK {P : Program} {w : World} {K : PySem.W.Frag} {elts : List Expr} {kk : Nat} {tpos : Pos} (a e it : Addr) (xs : List V) (c : Int) :
    Turn P w K (.Tuple elts kk tpos) (ItE K a xs c) [e, it] e (fun i h => (∃ old, IsEnum h e it (c + ((i : Nat) : Int)) old) ∧ h.IsListIter it a i ∧ e ≠ it ∧ e ≠ a ∧ a ≠ it) where
  mem := by simp
  obj := fun i h st b hb => by
    obtain ⟨⟨old, he⟩, ⟨o, ho, hc, hd⟩, _⟩ := st
    have e' : b = e ∨ b = it := by simpa using hb
    rcases e' with z | z
    · rw [z]; exact ⟨_, he, fun v q => nomatch q⟩
    · rw [z]; exact ⟨o, ho, fun v q => by rw [hd] at q; cases q⟩
  keep := fun i h h' st k => let ⟨⟨old, he⟩, hi, hne⟩ := st; ⟨⟨old, k e (by simp) _ he⟩, hi.at fun o q => k it (by simp) o q, hne⟩
  item := by
    intro X hP hw hK hc i pins s σ H E I hf st hg
    subst hP hw hK
    obtain ⟨⟨old, he⟩, hit, hne, hea, hai⟩ := st
    obtain ⟨hlt, hq⟩ := hg
    obtain ⟨its, rv, p, hz⟩ := I.list hq
    have hl := rv.length
    have hel : e < s.heap.objs.size := Heap.lt_size he
    have hil : it < s.heap.objs.size := by obtain ⟨_, q, _⟩ := hit; exact Heap.lt_size q
    refine wpAny_pyNext_enum_itemC (i := i) (Draws.list (prog := X.prog) (w := X.w) (A := X.A.in1) (I.ok.hd hc) it a hai its.toArray) he ⟨hit, p.isList⟩ (by simp; omega) hne (by simp; exact ⟨hne, hea⟩) fun u h' tk hP ho hst' hT hsz hk => ?_
    obtain ⟨hit', _⟩ := hst'
    have hu : its[i]? = some u := by simpa using hP
    refine ⟨_, rfl, wpAny_letOwnedTupleGo_enum (s := { s with heap := h', toks := tk + 1 }) ho fun h'' he' sb => ?_⟩
    have hT2 : h''.get? s.heap.objs.size = some { cls := .type "tuple", data := .seq #[.int (c + ((i : Nat) : Int)) tk, u] } := (sb.2 _ (Nat.ne_of_gt hel)).trans hT
    obtain ⟨u', hu', ru⟩ := rv.get (x := xs[i]) (i := i) (by simp [hlt])
    have eu : u' = u := by
      rw [hu] at hu'
      cases hu'
      rfl
    subst eu
    have new : ObjOk X.prog X.w (upd H s.heap.objs.size (.tup [.int (c + (i : Nat)), xs[i]])) h'' s.heap.objs.size (.tup [.int (c + (i : Nat)), xs[i]]) :=
      ⟨by show 2 ≤ sizeLine; decide, [.int (c + ((i : Nat) : Int)) tk, u'], .cons ⟨_, rfl⟩ (.cons ru .nil), ⟨_, hT2, rfl, _, rfl⟩⟩
    have I1 : Inv X pins σ (upd H s.heap.objs.size (.tup [.int (c + (i : Nat)), xs[i]])) { s with heap := h'', toks := tk + 1 } :=
      I.turnedNew (ch := [e, it]) (fun b ob hb q => (sb.2 b (fun z => hb (by simp [z]))).trans (hk b ob (fun z => hb (by simp [z])) (fun z => hb (by simp [z])) q)) hf (Nat.le_refl _) new
    refine ⟨.ref s.heap.objs.size, _, I1, rfl, ⟨_, xs[i], rfl, I.hok.fresh (Nat.le_refl _), rfl, by simp [hlt]⟩, ⟨⟨u', ?_⟩, hit'.at fun o q => (sb.2 it (Ne.symm hne)).trans q, hne, hea, hai⟩, fun b hb => ?_⟩
    · have e1 : c + ((i + 1 : Nat) : Int) = c + (i : Int) + 1 := by omega
      rw [e1]; exact he'
    · have hb' : b < s.heap.objs.size := by
        have e' : b = e ∨ b = it := by simpa using hb
        rcases e' with z | z
        · rw [z]; exact hel
        · rw [z]; exact hil
      rw [upd_ne (Nat.ne_of_lt hb')]
      exact (hf b hb).1
  done := by
    intro X hP hw hK hc i pins s σ H E I hf st hg
    subst hP hw hK
    obtain ⟨⟨old, he⟩, hit, hne, _, _⟩ := st
    obtain ⟨hq, hx⟩ := hg
    obtain ⟨its, rv, p, hz⟩ := I.list hq
    obtain ⟨f0, f1, f2, f3, f4, f5⟩ := hf it (by simp)
    have hl := rv.length
    have he2 : IsEnum s.heap e it (c + ((i : Nat) : Int)) old := he
    unfold pyNext
    refine wpAny_bind (wpAny_attempt (wpAny_callSpecial?_slot (name := Str.ofString "__next__") (⟨_, he2, rfl⟩ : s.TypeIs (.ref e) "enumerate") F.slot_enumerate_next
      (wpAny_call_entry F.slot_enumerate_next (⟨_, he2, rfl⟩ : s.TypeIs (.ref e) "enumerate") F.entry_enumerate_next ?_ (F.args_enumerate_next_1 _))))
    show wpAny _ _ (field (.ref e) 2 >>= _) _ _ _
    refine wpAny_bind (wpAny_field he2 rfl (x := .ref it) rfl ?_)
    refine wpAny_bind (wpAny_nextOf_list_end (I.ok.hd hc) hit p.isList (by simp; omega) fun h' x eb hx' => ?_)
    obtain ⟨o, ho, hcl⟩ := hx'
    refine wpAny_bind (wpAny_isInstance (T := "StopIteration") (b := true) ⟨o, ho, hcl⟩ isSubtype_stop ?_)
    exact wpAny_pure ⟨rfl, I.turned (t' := s.toks) (fun b o hb q => eb b o hb q) f0 f1 f3 f4 f5⟩
  self := fun A i s Q E st h => let ⟨⟨_, he⟩, _⟩ := st; wpAny_pyIter_enum he h
theorem walk_enumK {K : PySem.W.Frag} {a : Addr} {xs : List V} {c : Int} : Walk (ItE K a xs c) xs.length (fun H => SqL K H a xs) (YPair (fun i => some (.int (c + (i : Nat)))) (fun i => xs[i]?)) := by
  refine ⟨fun i _ hi q => ⟨hi, q⟩, fun _ q => ⟨q, Nat.le_refl _⟩, fun i H v H' _ q y => ?_⟩
  obtain ⟨T, x, h1, h2, h3, h4⟩ := y
  exact ⟨T, .int (c + (i : Nat)), x, h1, h2, h3, rfl, h4⟩
section
variable {M : Model} {A : Around} {E : Value → Shared → Prop} {s : Shared} {env : Env}
/-- a built-in class called with keywords -/
theorem callWith_typeK {pos : Pos} {T : String} {e : Expr} {rest : List Expr} {kws : List Keyword} {Q : Value → Shared → Prop}
    (h : wpAny M A (spliced (backTo pos (starEach (e :: rest) env))) (fun vs s1 => wpAny M A (evalAll ((backToKw pos (keywordEach kws env)).map (·.2)))
      (fun kvs s2 => wpAny M A (call (.type T) vs (((backToKw pos (keywordEach kws env)).filterMap (·.1)).zip kvs)) Q E s2) E s1) E s)
    (he : backTo pos (starEach (e :: rest) env) = (false, eval e env) :: backTo pos (starEach rest env)) (hplain : (backTo pos (starEach (e :: rest) env)).any (·.1) = false)
    (hall : (backToKw pos (keywordEach kws env)).all (·.1.isSome) = true) (hkw : (backToKw pos (keywordEach kws env)).any (·.1.isNone) = false) :
    wpAny M A (callWith pos (.type T) [] (backTo pos (starEach (e :: rest) env)) (backToKw pos (keywordEach kws env))) Q E s := by
  have key : wpAny M A (evalArgs (.type T) true (backTo pos (starEach (e :: rest) env)) (backToKw pos (keywordEach kws env))) (fun a s1 => wpAny M A (call (.type T) ([] ++ a.pos) a.kw) Q E s1) E s := by
    rw [he] at h ⊢
    exact evalArgs_kwB hall h
  unfold callWith
  refine wpAny_bind (wpAny_holding (wpAny_mono key (fun a s1 h1 => wpAny_bind (wpAny_standAt ?_)) fun _ _ x => x))
  simp only [hplain, hkw, Bool.or_false]
  refine wpAny_bind (wpAny_pure ?_)
  exact wpAny_bind (wpAny_mono h1 (fun r s2 hr => wpAny_bind (wpAny_holding (wpAny_point (wpAny_pure hr)))) fun _ _ x => x)
end
def iEnumK (K : PySem.W.Frag) (ta : TA) (tk : TA) : TI := fun σ H R => ta σ H fun vs H1 => tk σ H1 fun zs H2 => ∃ (a : Addr) (xs : List V) (c : Int), vs = [.ref a] ∧ zs = [.int c] ∧ -(2 ^ 63) ≤ c ∧ c < 2 ^ 63 ∧ SqL K H2 a xs ∧ R (ItE K a xs c) H2
theorem pi_enumK {X : Cx} {e : Expr} {kws : List Keyword} {ta tk : TA} {p pos tpos : Pos} {elts : List Expr} {kk : Nat} (hg : Gl X "enumerate") (hm : X.mg "enumerate" = none) (ha : PA X [e] ta) (hk : PK X kws tk)
    (he : backTo pos (starEach [e] X.env) = (false, eval e X.env) :: backTo pos (starEach [] X.env) := by rfl) (hpl : (backTo pos (starEach [e] X.env)).any (·.1) = false := by rfl)
    (hall : (backToKw pos (keywordEach kws X.env)).all (·.1.isSome) = true := by rfl) (hnone : (backToKw pos (keywordEach kws X.env)).any (·.1.isNone) = false := by rfl)
    (hks : (backToKw pos (keywordEach kws X.env)).filterMap (·.1) = [Str.ofString "start"] := by rfl) :
    PI X (.Tuple elts kk tpos) (.Call (.Name "enumerate" p) [e] kws pos) (iEnumK X.K ta tk) := by
  refine ⟨fun pins s σ H R I h => ?_⟩
  refine wpAny_Call_Name_kw (ld_blt I hg hm boot_enumerate ?_)
  refine callWith_typeK (thn (ha.run pos pins s σ H _ I h) fun us s1 ⟨vs, H1, I1, r1, q1⟩ => thn (hk.run pos pins s1 σ H1 _ I1 q1) fun ws s2 ⟨zs, H2, I2, r2, q2⟩ => ?_) he hpl hall hnone
  obtain ⟨a, xs, c, e1, e2, hc0, hc1, hq, q⟩ := q2
  subst e1 e2
  rw [hks]
  cases r1 with
  | cons r rr =>
    cases rr
    cases r
    cases r2 with
    | cons r' rr' =>
      cases rr'
      obtain ⟨t, rfl⟩ := r'
      obtain ⟨its, rv, p', hz⟩ := I2.list hq
      obtain ⟨oa, hoa, _⟩ := id p'.isList
      have hal : a < s2.heap.objs.size := Heap.lt_size hoa
      refine enum_begins_start (begins_list a its.toArray) p'.isList hc0 hc1 fun h' he hit hsz hk => wpAny_pyIter_enum he ?_
      have I3 : Inv X pins σ H2 { s2 with heap := h' } := I2.kept (t' := s2.toks) hk
      have e0 : c + ((0 : Nat) : Int) = c := by simp
      refine ⟨s2.heap.objs.size + 1, [s2.heap.objs.size + 1, s2.heap.objs.size], _, _, H2, rfl, I3, turn_enumK a (s2.heap.objs.size + 1) s2.heap.objs.size xs c,
        ⟨⟨.none, by rw [e0]; exact he⟩, ⟨_, hit, rfl, rfl⟩, Nat.succ_ne_self _, Nat.ne_of_gt (Nat.lt_succ_of_lt hal), Nat.ne_of_lt hal⟩, fun b hb => ?_, q⟩
      have e' : b = s2.heap.objs.size + 1 ∨ b = s2.heap.objs.size := by simpa using hb
      have hle : s2.heap.objs.size ≤ b := by
        rcases e' with z | z
        · rw [z]; exact Nat.le_add_right _ _
        · rw [z]; exact Nat.le_refl _
      exact I2.fpOk hle (I2.hok.fresh hle)
end L2

namespace Pm
open Kh450 (Text)

/-! ### words -/
theorem tw_eq (p : Nat → Bool) : ∀ t : List Nat, Kh450.takeWhile p t = (t.takeWhile p, t.dropWhile p)
  | [] => by simp [Kh450.takeWhile]
  | c :: r => by
    have ih := tw_eq p r
    unfold Kh450.takeWhile
    by_cases h : p c = true
    · simp [h, ih, List.takeWhile_cons, List.dropWhile_cons]
    · simp [h, List.takeWhile_cons, List.dropWhile_cons]

abbrev nw (c : Nat) : Bool := !Kh450.isWhite c

def wordOf? : Kh450.Atom → Option Text
  | .word w => some w
  | _ => none

theorem atoms_fuel : ∀ (f g : Nat) (t : List Nat), t.length < f → t.length < g → Kh450.atomsOf f t = Kh450.atomsOf g t
  | 0, _, _, h, _ => absurd h (Nat.not_lt_zero _)
  | _, 0, _, _, h => absurd h (Nat.not_lt_zero _)
  | f + 1, g + 1, [], _, _ => rfl
  | f + 1, g + 1, c :: r, hf, hg => by
    simp only [List.length_cons] at hf hg
    unfold Kh450.atomsOf
    by_cases h : Kh450.isWhite c = true
    · simp only [h, if_true, tw_eq]
      have hl : (r.dropWhile Kh450.isWhite).length ≤ r.length := (List.dropWhile_sublist _).length_le
      rw [atoms_fuel f g _ (by omega) (by omega)]
    · simp only [if_neg h, tw_eq]
      have hc : nw c = true := by simp [nw, h]
      have hl : ((c :: r).dropWhile (fun x => !Kh450.isWhite x)).length ≤ r.length := by
        rw [List.dropWhile_cons, if_pos hc]
        exact (List.dropWhile_sublist _).length_le
      rw [atoms_fuel f g _ (by omega) (by omega)]

theorem wordsOf_def (t : List Nat) (f : Nat) (h : t.length < f) : Kh455.wordsOf t = (Kh450.atomsOf f t).filterMap wordOf? := by
  unfold Kh455.wordsOf
  rw [atoms_fuel (t.length + 1) f t (by omega) h]
  rfl

theorem words_nil : Kh455.wordsOf [] = [] := rfl
theorem words_white_drop {c : Nat} {r : List Nat} (h : Kh450.isWhite c = true) : Kh455.wordsOf (c :: r) = Kh455.wordsOf (r.dropWhile Kh450.isWhite) := by
  rw [wordsOf_def (c :: r) (r.length + 2) (by simp), wordsOf_def (r.dropWhile Kh450.isWhite) (r.length + 1) (by
    have hl : (r.dropWhile Kh450.isWhite).length ≤ r.length := (List.dropWhile_sublist _).length_le
    omega)]
  conv => lhs; unfold Kh450.atomsOf
  simp only [h, if_true, tw_eq, List.filterMap_cons, wordOf?]
theorem words_drop : ∀ r : List Nat, Kh455.wordsOf (r.dropWhile Kh450.isWhite) = Kh455.wordsOf r
  | [] => rfl
  | c :: r => by
    by_cases h : Kh450.isWhite c = true
    · rw [List.dropWhile_cons, if_pos h, words_white_drop h]
    · rw [List.dropWhile_cons, if_neg h]
theorem words_white {c : Nat} {r : List Nat} (h : Kh450.isWhite c = true) : Kh455.wordsOf (c :: r) = Kh455.wordsOf r := (words_white_drop h).trans (words_drop r)
theorem words_word {c : Nat} {r : List Nat} (h : Kh450.isWhite c = false) : Kh455.wordsOf (c :: r) = (c :: r.takeWhile nw) :: Kh455.wordsOf (r.dropWhile nw) := by
  have hc : nw c = true := by simp [nw, h]
  have hl : (r.dropWhile nw).length ≤ r.length := (List.dropWhile_sublist _).length_le
  rw [wordsOf_def (c :: r) (r.length + 2) (by simp), wordsOf_def (r.dropWhile nw) (r.length + 1) (by omega)]
  conv => lhs; unfold Kh450.atomsOf
  simp only [h, tw_eq, List.takeWhile_cons, List.dropWhile_cons, Bool.not_false, if_true, Bool.false_eq_true, if_false, List.filterMap_cons, wordOf?]

/-- the turn of words_of's loop: the words that are ended, the one under way -/
def wStep (s : List Text × Text) (c : Nat) : List Text × Text :=
  if Kh450.isWhite c then (if s.2.isEmpty then s else (s.1 ++ [s.2], [])) else (s.1, s.2 ++ [c])
def wEnd (s : List Text × Text) : List Text := if s.2.isEmpty then s.1 else s.1 ++ [s.2]

theorem wEnd_run : ∀ (t : List Nat) (ws : List Text) (w : Text),
    wEnd (t.foldl wStep (ws, w)) = ws ++ (if w.isEmpty then Kh455.wordsOf t else (w ++ t.takeWhile nw) :: Kh455.wordsOf (t.dropWhile nw))
  | [], ws, w => by
    cases w with
    | nil => simp [wEnd, words_nil]
    | cons a w => simp [wEnd, words_nil]
  | c :: r, ws, w => by
    rw [List.foldl_cons]
    by_cases h : Kh450.isWhite c = true
    · have hn : nw c = false := by simp [nw, h]
      cases w with
      | nil =>
        have e : wStep (ws, []) c = (ws, []) := by simp [wStep, h]
        rw [e, wEnd_run r ws []]
        simp [words_white h]
      | cons a w =>
        have e : wStep (ws, a :: w) c = (ws ++ [a :: w], []) := by simp [wStep, h]
        rw [e, wEnd_run r (ws ++ [a :: w]) []]
        simp [List.takeWhile_cons, List.dropWhile_cons, h, words_white h]
    · have h' : Kh450.isWhite c = false := by simpa using h
      have hn : nw c = true := by simp [nw, h']
      have e : wStep (ws, w) c = (ws, w ++ [c]) := by simp [wStep, h']
      rw [e, wEnd_run r ws (w ++ [c])]
      have ne : (w ++ [c]).isEmpty = false := by cases w <;> rfl
      cases w with
      | nil => simp [words_word h']
      | cons a w => simp [List.takeWhile_cons, List.dropWhile_cons, h']
theorem wEnd_all (t : List Nat) : wEnd (t.foldl wStep ([], [])) = Kh455.wordsOf t := by
  rw [wEnd_run]; simp

/-! ### a pattern -/
/-- the loop of pattern_of: letters, levels, after_digit; none: it raises -/
def pStep (s : Text × List Nat × Bool) (c : Nat) : Option (Text × List Nat × Bool) :=
  if Kh450.isDigit c then (if s.2.2 then none else some (s.1, s.2.1.set (s.2.1.length - 1) (c - 48), true))
  else if Kh450.isLower c || c == 46 then some (s.1 ++ [c], s.2.1 ++ [0], false)
  else none
def pRun : List Nat → Text × List Nat × Bool → Option (Text × List Nat × Bool)
  | [], s => some s
  | c :: r, s => (pStep s c).bind (pRun r)
def patOf (w : Text) : Option Kh455.Pattern := match Kh455.readPattern w with
  | some p => if p.letters.isEmpty then none else some p
  | none => none

theorem set_last (v : List Nat) (a b : Nat) : (v ++ [a]).set ((v ++ [a]).length - 1) b = v ++ [b] := by
  simp

theorem read_levels : ∀ (w : List Nat) (p : Kh455.Pattern), Kh455.readPattern w = some p → p.levels.length = p.letters.length + 1
  | [], p, h => by
    simp [Kh455.readPattern] at h
    subst h; rfl
  | c :: r, p, h => by
    unfold Kh455.readPattern at h
    split at h
    · split at h
      · cases h; rfl
      · rename_i d r' 
        split at h
        · cases h
        · cases e : Kh455.readPattern (d :: r') with
          | none => rw [e] at h; cases h
          | some q =>
            have ih := read_levels (d :: r') q e
            rw [e] at h
            cases h
            simp only [List.length_cons, List.length_drop]
            omega
    · split at h
      · cases e : Kh455.readPattern r with
        | none => rw [e] at h; cases h
        | some q =>
          have ih := read_levels r q e
          rw [e] at h
          cases h
          simp only [List.length_cons]
          omega
      · cases h

theorem pRun_read : ∀ (w : List Nat) (l : Text) (v : List Nat) (d : Nat),
    (pRun w (l, v ++ [0], false)).map (fun s => (s.1, s.2.1)) = (Kh455.readPattern w).map (fun p => (l ++ p.letters, v ++ p.levels)) ∧
    (pRun w (l, v ++ [d], true)).map (fun s => (s.1, s.2.1)) = (match w with
      | [] => some (l, v ++ [d])
      | c :: _ => if Kh450.isDigit c then none else (Kh455.readPattern w).map (fun p => (l ++ p.letters, v ++ d :: p.levels.drop 1)))
  | [], l, v, d => by simp [pRun, Kh455.readPattern]
  | c :: r, l, v, d => by
    by_cases hd : Kh450.isDigit c = true
    · constructor
      · have e : pRun (c :: r) (l, v ++ [0], false) = pRun r (l, v ++ [c - 48], true) := by
          simp [pRun, pStep, hd]
        rw [e, (pRun_read r l v (c - 48)).2]
        cases r with
        | nil =>
          have e2 : Kh455.readPattern [c] = some ⟨[], [c - 48]⟩ := by
            show (if Kh450.isDigit c = true then _ else _) = _
            rw [if_pos hd]
          rw [e2]; simp
        | cons a r' =>
          have e2 : Kh455.readPattern (c :: a :: r') = if Kh450.isDigit a then none else (Kh455.readPattern (a :: r')).map fun p => ⟨p.letters, (c - 48) :: p.levels.drop 1⟩ := by
            show (if Kh450.isDigit c = true then _ else _) = _
            rw [if_pos hd]
          rw [e2]
          by_cases ha : Kh450.isDigit a = true
          · simp only [if_pos ha]; rfl
          · simp only [if_neg ha]
            cases Kh455.readPattern (a :: r') with
            | none => rfl
            | some p => rfl
      · simp [pRun, pStep, hd]
    · by_cases hl : (Kh450.isLower c || c == 46) = true
      · have key : ∀ (b : Bool) (v' : List Nat), pRun (c :: r) (l, v', b) = pRun r (l ++ [c], v' ++ [0], false) := by
          intro b v'
          simp [pRun, pStep, hd, hl]
        have e1 : Kh455.readPattern (c :: r) = (Kh455.readPattern r).map fun p => ⟨c :: p.letters, 0 :: p.levels⟩ := by
          conv => lhs; unfold Kh455.readPattern
          simp [hd, hl]
        constructor
        · rw [key, (pRun_read r (l ++ [c]) (v ++ [0]) 0).1, e1]
          cases Kh455.readPattern r with
          | none => rfl
          | some p => simp
        · rw [key, (pRun_read r (l ++ [c]) (v ++ [d]) 0).1]
          simp only [hd, Bool.false_eq_true, if_false]
          rw [e1]
          cases Kh455.readPattern r with
          | none => rfl
          | some p => simp
      · constructor
        · have e1 : Kh455.readPattern (c :: r) = none := by
            conv => lhs; unfold Kh455.readPattern
            simp [hd, hl]
          rw [e1]
          simp [pRun, pStep, hd, hl]
        · have e1 : Kh455.readPattern (c :: r) = none := by
            conv => lhs; unfold Kh455.readPattern
            simp [hd, hl]
          simp [pRun, pStep, hd, hl, e1]
theorem pRun_all (w : List Nat) : (pRun w ([], [0], false)).map (fun s => (s.1, s.2.1)) = (Kh455.readPattern w).map (fun p => (p.letters, p.levels)) := by
  have h := (pRun_read w [] [] 0).1
  simpa using h
theorem pRun_snoc : ∀ (w : List Nat) (c : Nat) (s : Text × List Nat × Bool), pRun (w ++ [c]) s = (pRun w s).bind fun q => pStep q c
  | [], c, s => by simp [pRun]
  | a :: w, c, s => by
    show (pStep s a).bind (pRun (w ++ [c])) = ((pStep s a).bind (pRun w)).bind fun q => pStep q c
    cases pStep s a with
    | none => rfl
    | some q => exact pRun_snoc w c q

/-- all patterns -/
def pats : List Text → Option (List Kh455.Pattern)
  | [] => some []
  | w :: r => match patOf w, pats r with
    | some p, some l => some (p :: l)
    | _, _ => none
theorem readPatterns_eq (t : List Nat) : Kh455.readPatterns t = pats (Kh455.wordsOf t) := by
  unfold Kh455.readPatterns
  induction Kh455.wordsOf t with
  | nil => rfl
  | cons w r ih =>
    rw [List.foldr_cons, ih]
    show _ = (match patOf w, pats r with
      | some p, some l => some (p :: l)
      | _, _ => none)
    unfold patOf
    cases Kh455.readPattern w with
    | none => rfl
    | some p =>
      cases pats r with
      | none => by_cases h : p.letters.isEmpty = true <;> simp only [h] <;> rfl
      | some l => by_cases h : p.letters.isEmpty = true <;> simp only [h] <;> rfl
end Pm

namespace Pm
open Kh450 (Text)

/-! ### UTF-8, as the program reads it -/
def seqSize (a : Nat) : Option Nat :=
  if a < 128 then some 1 else if 192 ≤ a ∧ a < 224 then some 2 else if 224 ≤ a ∧ a < 240 then some 3 else if 240 ≤ a ∧ a < 248 then some 4 else none
def smallest (n : Nat) : Nat := [0, 0, 128, 2048, 65536].getD n 0
def leads (n : Nat) : Nat := [0, 0, 192, 224, 240].getD n 0
/-- the loop of read_sequence -/
def cRun : List Nat → Nat → Option Nat
  | [], c => some c
  | b :: r, c => if 128 ≤ b ∧ b < 192 then cRun r (c * 64 + b - 128) else none
theorem cRun_snoc : ∀ (l : List Nat) (b c : Nat), cRun (l ++ [b]) c = (cRun l c).bind fun d => if 128 ≤ b ∧ b < 192 then some (d * 64 + b - 128) else none
  | [], b, c => by
    show (if _ then _ else _) = _
    by_cases h : 128 ≤ b ∧ b < 192
    · rw [if_pos h]; simp [h, cRun]
    · rw [if_neg h]; simp [h, cRun]
  | a :: l, b, c => by
    show (if 128 ≤ a ∧ a < 192 then cRun (l ++ [b]) (c * 64 + a - 128) else none) = _
    by_cases h : 128 ≤ a ∧ a < 192
    · rw [if_pos h, cRun_snoc l b]
      show _ = (if _ then _ else _ : Option Nat).bind _
      rw [if_pos h]
    · rw [if_neg h]
      show _ = (if _ then _ else _ : Option Nat).bind _
      rw [if_neg h]; rfl
def readSeq (l : List Nat) (n : Nat) : Option Nat :=
  if l.length < n then none
  else match l with
    | [] => none
    | a :: r => (cRun r (a - leads n)).bind fun c => if c < smallest n ∨ (55296 ≤ c ∧ c ≤ 57343) ∨ 1114111 < c then none else some c
theorem sz1 {a : Nat} (h : a < 128) : seqSize a = some 1 := if_pos h
theorem sz2 {a : Nat} (h : 192 ≤ a ∧ a < 224) : seqSize a = some 2 := (if_neg (by omega)).trans (if_pos h)
theorem sz3 {a : Nat} (h : 224 ≤ a ∧ a < 240) : seqSize a = some 3 := (if_neg (by omega)).trans ((if_neg (by omega)).trans (if_pos h))
theorem sz4 {a : Nat} (h : 240 ≤ a ∧ a < 248) : seqSize a = some 4 := (if_neg (by omega)).trans ((if_neg (by omega)).trans ((if_neg (by omega)).trans (if_pos h)))
theorem sz0 {a : Nat} (h : (128 ≤ a ∧ a < 192) ∨ 248 ≤ a) : seqSize a = none := (if_neg (by omega)).trans ((if_neg (by omega)).trans ((if_neg (by omega)).trans (if_neg (by omega))))
theorem decode_eq (a : Nat) (rest : List Nat) : Kh450.decodeUtf8 (a :: rest) = (match seqSize a with
    | none => none
    | some n => (readSeq ((a :: rest).take n) n).map fun c => (c, (a :: rest).drop n)) := by
  have hc : ∀ b, Kh450.isContinuation b = decide (128 ≤ b ∧ b < 192) := fun b => by
    unfold Kh450.isContinuation; by_cases h1 : 128 ≤ b <;> by_cases h2 : b < 192 <;> simp [h1, h2]
  have hs : ∀ c, Kh450.isScalar c = decide (c ≤ 1114111 ∧ ¬ (55296 ≤ c ∧ c ≤ 57343)) := fun c => by
    unfold Kh450.isScalar
    by_cases h1 : c < 1114112 <;> by_cases h2 : 55296 ≤ c <;> by_cases h3 : c < 57344 <;> simp [h1, h2, h3] <;> omega
  unfold Kh450.decodeUtf8
  dsimp only
  by_cases h1 : a < 128
  · rw [if_pos h1, sz1 h1]
    have e : readSeq [a] 1 = some a := by
      unfold readSeq
      simp [cRun, leads, smallest]
      omega
    simp [e]
  · rw [if_neg h1]
    by_cases h2 : a < 194
    · rw [if_pos h2]
      by_cases h3 : 192 ≤ a ∧ a < 224
      · rw [sz2 h3]
        cases rest with
        | nil => simp [readSeq]
        | cons b r =>
          simp only [List.take_succ_cons, List.take_zero]
          have e : readSeq [a, b] 2 = none := by
            unfold readSeq
            simp only [List.length_cons, List.length_nil, leads, smallest]
            by_cases hb : 128 ≤ b ∧ b < 192
            · simp [cRun, hb]
              intro h4; omega
            · simp [cRun, hb]
          rw [e]; rfl
      · rw [sz0 (by omega)]
    · rw [if_neg h2]
      by_cases h3 : a < 224
      · rw [if_pos h3, sz2 (by omega)]
        cases rest with
        | nil => simp [readSeq]
        | cons b r =>
          simp only [List.take_succ_cons, List.take_zero, List.drop_succ_cons, List.drop_zero, hc]
          by_cases hb : 128 ≤ b ∧ b < 192
          · have e : readSeq [a, b] 2 = some (a % 32 * 64 + b % 64) := by
              unfold readSeq
              simp only [List.length_cons, List.length_nil, leads, smallest]
              simp [cRun, hb]
              omega
            rw [e]; simp [hb]
          · have e : readSeq [a, b] 2 = none := by
              unfold readSeq
              simp [cRun, hb]
            rw [e]; simp [hb]
      · rw [if_neg h3]
        by_cases h4 : a < 240
        · rw [if_pos h4, sz3 (by omega)]
          match rest with
          | [] => simp [readSeq]
          | [b] => simp [readSeq]
          | b :: c :: r =>
            simp only [List.take_succ_cons, List.take_zero, List.drop_succ_cons, List.drop_zero, hc, hs]
            by_cases hb : 128 ≤ b ∧ b < 192
            · by_cases hd : 128 ≤ c ∧ c < 192
              · have ev : ((a - 224) * 64 + b - 128) * 64 + c - 128 = a % 16 * 4096 + b % 64 * 64 + c % 64 := by omega
                have e : readSeq [a, b, c] 3 = (if (a % 16 * 4096 + b % 64 * 64 + c % 64) < 2048 ∨ (55296 ≤ (a % 16 * 4096 + b % 64 * 64 + c % 64) ∧ (a % 16 * 4096 + b % 64 * 64 + c % 64) ≤ 57343) ∨ 1114111 < (a % 16 * 4096 + b % 64 * 64 + c % 64) then none else some (a % 16 * 4096 + b % 64 * 64 + c % 64)) := by
                  have ec : cRun [b, c] (a - leads 3) = some (a % 16 * 4096 + b % 64 * 64 + c % 64) := by
                    show (if _ then (if _ then some (((a - 224) * 64 + b - 128) * 64 + c - 128) else none) else none) = _
                    rw [if_pos hb, if_pos hd, ev]
                  show (if [a, b, c].length < 3 then none else (cRun [b, c] (a - leads 3)).bind _) = _
                  rw [if_neg (by simp), ec]
                  rfl
                rw [e]
                generalize a % 16 * 4096 + b % 64 * 64 + c % 64 = x
                by_cases q : x < 2048 ∨ (55296 ≤ x ∧ x ≤ 57343) ∨ 1114111 < x
                · rw [if_pos q, if_neg (by simp [hb, hd]; omega)]; rfl
                · rw [if_neg q, if_pos (by simp [hb, hd]; omega)]; rfl
              · have e : readSeq [a, b, c] 3 = none := by
                  unfold readSeq
                  simp [cRun, hb, hd]
                rw [e]; simp [hd]
            · have e : readSeq [a, b, c] 3 = none := by
                unfold readSeq
                simp [cRun, hb]
              rw [e]; simp [hb]
        · rw [if_neg h4]
          by_cases h5 : a < 248
          · rw [sz4 (by omega)]
            match rest with
            | [] => by_cases h6 : a < 245 <;> simp [readSeq, h6]
            | [b] => by_cases h6 : a < 245 <;> simp [readSeq, h6]
            | [b, c] => by_cases h6 : a < 245 <;> simp [readSeq, h6]
            | b :: c :: d :: r =>
              simp only [List.take_succ_cons, List.take_zero, List.drop_succ_cons, List.drop_zero, hc, hs]
              by_cases hb : 128 ≤ b ∧ b < 192
              · by_cases hd : 128 ≤ c ∧ c < 192
                · by_cases hg : 128 ≤ d ∧ d < 192
                  · have ev : (((a - 240) * 64 + b - 128) * 64 + c - 128) * 64 + d - 128 = a % 8 * 262144 + b % 64 * 4096 + c % 64 * 64 + d % 64 := by omega
                    have e : readSeq [a, b, c, d] 4 = (if (a % 8 * 262144 + b % 64 * 4096 + c % 64 * 64 + d % 64) < 65536 ∨ (55296 ≤ (a % 8 * 262144 + b % 64 * 4096 + c % 64 * 64 + d % 64) ∧ (a % 8 * 262144 + b % 64 * 4096 + c % 64 * 64 + d % 64) ≤ 57343) ∨ 1114111 < (a % 8 * 262144 + b % 64 * 4096 + c % 64 * 64 + d % 64) then none else some (a % 8 * 262144 + b % 64 * 4096 + c % 64 * 64 + d % 64)) := by
                      have ec : cRun [b, c, d] (a - leads 4) = some (a % 8 * 262144 + b % 64 * 4096 + c % 64 * 64 + d % 64) := by
                        show (if _ then (if _ then (if _ then some ((((a - 240) * 64 + b - 128) * 64 + c - 128) * 64 + d - 128) else none) else none) else none) = _
                        rw [if_pos hb, if_pos hd, if_pos hg, ev]
                      show (if [a, b, c, d].length < 4 then none else (cRun [b, c, d] (a - leads 4)).bind _) = _
                      rw [if_neg (by simp), ec]
                      rfl
                    rw [e]
                    have big : ¬ a < 245 → 1114111 < a % 8 * 262144 + b % 64 * 4096 + c % 64 * 64 + d % 64 := by omega
                    generalize hx : a % 8 * 262144 + b % 64 * 4096 + c % 64 * 64 + d % 64 = x at big ⊢
                    by_cases h6 : a < 245
                    · rw [if_pos h6]
                      by_cases q : x < 65536 ∨ (55296 ≤ x ∧ x ≤ 57343) ∨ 1114111 < x
                      · rw [if_pos q, if_neg (by simp [hb, hd, hg]; omega)]; rfl
                      · rw [if_neg q, if_pos (by simp [hb, hd, hg]; omega)]; rfl
                    · rw [if_neg h6, if_pos (by right; right; exact big h6)]; rfl
                  · have e : readSeq [a, b, c, d] 4 = none := by
                      unfold readSeq
                      simp [cRun, hb, hd, hg]
                    rw [e]; simp [hg]
                · have e : readSeq [a, b, c, d] 4 = none := by
                    unfold readSeq
                    simp [cRun, hb, hd]
                  rw [e]; simp [hd]
              · have e : readSeq [a, b, c, d] 4 = none := by
                  unfold readSeq
                  simp [cRun, hb]
                rw [e]; simp [hb]
          · rw [if_neg (by omega), sz0 (by omega)]
theorem decode_shorter {bs : List Nat} {c : Nat} {r : List Nat} (h : Kh450.decodeUtf8 bs = some (c, r)) : r.length < bs.length := by
  cases bs with
  | nil => cases h
  | cons a rest =>
    rw [decode_eq] at h
    cases e : seqSize a with
    | none => rw [e] at h; cases h
    | some n =>
      rw [e] at h
      have hn : 1 ≤ n := by
        unfold seqSize at e
        split at e
        · cases e; decide
        · split at e
          · cases e; decide
          · split at e
            · cases e; decide
            · split at e
              · cases e; decide
              · cases e
      cases q : readSeq ((a :: rest).take n) n with
      | none => simp only [q] at h; cases h
      | some c' =>
        simp only [q] at h
        cases h
        rw [List.length_drop, List.length_cons]
        omega
theorem loop_fuel : ∀ (f g : Nat) (bs : List Nat), bs.length ≤ f → bs.length ≤ g → Kh450.decodeAllLoop f bs = Kh450.decodeAllLoop g bs
  | 0, 0, _, _, _ => rfl
  | _, _, [], _, _ => by unfold Kh450.decodeAllLoop; rfl
  | 0, _ + 1, a :: r, h, _ => absurd h (by simp)
  | _ + 1, 0, a :: r, _, h => absurd h (by simp)
  | f + 1, g + 1, a :: r, hf, hg => by
    unfold Kh450.decodeAllLoop
    cases e : Kh450.decodeUtf8 (a :: r) with
    | none => rfl
    | some p =>
      obtain ⟨c, rest⟩ := p
      have hl := decode_shorter e
      simp only [List.length_cons] at hl hf hg
      simp only
      rw [loop_fuel f g rest (by omega) (by omega)]
theorem all_nil : Kh450.decodeAll [] = some [] := rfl
theorem all_cons (a : Nat) (r : List Nat) : Kh450.decodeAll (a :: r) = (match Kh450.decodeUtf8 (a :: r) with
    | none => none
    | some p => (Kh450.decodeAll p.2).map fun t => p.1 :: t) := by
  unfold Kh450.decodeAll
  show (match Kh450.decodeUtf8 (a :: r) with
    | none => none
    | some (c, rest) => (Kh450.decodeAllLoop r.length rest).map fun codes => c :: codes) = _
  cases e : Kh450.decodeUtf8 (a :: r) with
  | none => rfl
  | some p =>
    obtain ⟨c, rest⟩ := p
    have hl := decode_shorter e
    simp only [List.length_cons] at hl ⊢
    rw [loop_fuel r.length rest.length rest (by omega) (Nat.le_refl _)]
theorem all_step (a : Nat) (r : List Nat) : Kh450.decodeAll (a :: r) = (match seqSize a with
    | none => none
    | some n => (match readSeq ((a :: r).take n) n with
      | none => none
      | some c => (Kh450.decodeAll ((a :: r).drop n)).map fun t => c :: t)) := by
  rw [all_cons, decode_eq]
  cases seqSize a with
  | none => rfl
  | some n =>
    cases e : readSeq ((a :: r).take n) n with
    | none => simp only [e]; rfl
    | some c => simp only [e]; rfl
/-- bounds that the walk asks for -/
theorem seqSize_cases {a n : Nat} (h : seqSize a = some n) : (n = 1 ∨ n = 2 ∨ n = 3 ∨ n = 4) ∧ leads n ≤ a := by
  unfold seqSize at h
  split at h
  · cases h; exact ⟨.inl rfl, by simp [leads]⟩
  · split at h
    · cases h; exact ⟨.inr (.inl rfl), by simp only [leads, List.getD_cons_succ, List.getD_cons_zero]; omega⟩
    · split at h
      · cases h; exact ⟨.inr (.inr (.inl rfl)), by simp only [leads, List.getD_cons_succ, List.getD_cons_zero]; omega⟩
      · split at h
        · cases h; exact ⟨.inr (.inr (.inr rfl)), by simp only [leads, List.getD_cons_succ, List.getD_cons_zero]; omega⟩
        · cases h
theorem decode_len : ∀ (n : Nat) (bs t : List Nat), bs.length ≤ n → Kh450.decodeAll bs = some t → t.length ≤ bs.length
  | _, [], t, _, h => by
    rw [all_nil] at h; cases h; simp
  | 0, a :: r, t, h, _ => absurd h (by simp)
  | n + 1, a :: r, t, hn, h => by
    rw [all_cons] at h
    cases e : Kh450.decodeUtf8 (a :: r) with
    | none => rw [e] at h; cases h
    | some p =>
      have hl := decode_shorter (bs := a :: r) (c := p.1) (r := p.2) e
      rw [e] at h
      simp only at h
      cases q : Kh450.decodeAll p.2 with
      | none => rw [q] at h; cases h
      | some t' =>
        rw [q] at h
        cases h
        simp only [List.length_cons] at hl hn ⊢
        have := decode_len n p.2 t' (by omega) q
        omega
end Pm

namespace Pm
open Kh450 (Text)
open Kh455 (raiseAt levelsOf Pattern)

/-! ### levels -/
/-- what a pattern's levels, laid at i, have at k -/
def lift (i : Nat) (a : List Nat) (k : Nat) : Nat := if k < i then 0 else a.getD (k - i) 0
theorem raise_len : ∀ (i : Nat) (a L : List Nat), (raiseAt i a L).length = L.length
  | _, [], L => by cases L <;> simp [raiseAt]
  | 0, x :: a, [] => by simp [raiseAt]
  | _ + 1, x :: a, [] => by simp [raiseAt]
  | 0, x :: a, y :: L => by simp [raiseAt, raise_len 0 a L]
  | i + 1, x :: a, y :: L => by simp [raiseAt, raise_len i (x :: a) L]
theorem raise_get : ∀ (i : Nat) (a L : List Nat) (k : Nat), (raiseAt i a L)[k]? = L[k]?.map fun y => max (lift i a k) y
  | i, [], L, k => by
    have e : raiseAt i [] L = L := by cases L <;> cases i <;> simp [raiseAt]
    rw [e]
    have z : lift i [] k = 0 := by simp [lift]
    simp only [z, Nat.zero_max]
    cases L[k]? <;> rfl
  | 0, x :: a, [], k => by simp [raiseAt]
  | _ + 1, x :: a, [], k => by simp [raiseAt]
  | 0, x :: a, y :: L, 0 => by simp [raiseAt, lift]
  | 0, x :: a, y :: L, k + 1 => by
    have e : raiseAt 0 (x :: a) (y :: L) = max x y :: raiseAt 0 a L := by simp [raiseAt]
    rw [e, List.getElem?_cons_succ, List.getElem?_cons_succ, raise_get 0 a L k]
    have z : lift 0 (x :: a) (k + 1) = lift 0 a k := by simp [lift]
    rw [z]
  | i + 1, x :: a, y :: L, 0 => by simp [raiseAt, lift]
  | i + 1, x :: a, y :: L, k + 1 => by
    have e : raiseAt (i + 1) (x :: a) (y :: L) = y :: raiseAt i (x :: a) L := by simp [raiseAt]
    rw [e, List.getElem?_cons_succ, List.getElem?_cons_succ, raise_get i (x :: a) L k]
    have z : lift (i + 1) (x :: a) (k + 1) = lift i (x :: a) k := by
      unfold lift
      by_cases h : k < i
      · rw [if_pos (by omega), if_pos h]
      · rw [if_neg (by omega), if_neg h]
        congr 1
        omega
    rw [z]
theorem raise_comm (i j : Nat) (a b L : List Nat) : raiseAt i a (raiseAt j b L) = raiseAt j b (raiseAt i a L) := by
  apply List.ext_getElem?
  intro k
  rw [raise_get, raise_get, raise_get, raise_get]
  cases L[k]? with
  | none => rfl
  | some y =>
    simp only [Option.map_some]
    congr 1
    omega
/-- the innermost loop: k levels of the pattern are laid -/
theorem raise_more {i k : Nat} {a L : List Nat} {x y : Nat} (ha : a[k]? = some x) (hL : (raiseAt i (a.take k) L)[i + k]? = some y) : (raiseAt i (a.take k) L).set (i + k) (max y x) = raiseAt i (a.take (k + 1)) L := by
  apply List.ext_getElem?
  intro m
  have hlt : i + k < (raiseAt i (a.take k) L).length := by
    rw [List.getElem?_eq_some_iff] at hL
    exact hL.1
  have hk : k < a.length := by
    rw [List.getElem?_eq_some_iff] at ha
    exact ha.1
  have l1 : ∀ n, lift i (a.take k) n = if n < i + k then lift i a n else 0 := fun n => by
    unfold lift
    by_cases h : n < i
    · simp [h, show n < i + k by omega]
    · rw [if_neg h, if_neg h]
      by_cases h2 : n < i + k
      · rw [if_pos h2, List.getD_eq_getElem?_getD, List.getD_eq_getElem?_getD, List.getElem?_take, if_pos (by omega)]
      · rw [if_neg h2, List.getD_eq_getElem?_getD, List.getElem?_take, if_neg (by omega)]
        rfl
  have l2 : ∀ n, lift i (a.take (k + 1)) n = if n < i + k + 1 then lift i a n else 0 := fun n => by
    unfold lift
    by_cases h : n < i
    · simp [h, show n < i + k + 1 by omega]
    · rw [if_neg h, if_neg h]
      by_cases h2 : n < i + k + 1
      · rw [if_pos h2, List.getD_eq_getElem?_getD, List.getD_eq_getElem?_getD, List.getElem?_take, if_pos (by omega)]
      · rw [if_neg h2, List.getD_eq_getElem?_getD, List.getElem?_take, if_neg (by omega)]
        rfl
  by_cases hm : i + k = m
  · subst hm
    rw [List.getElem?_set_self hlt]
    rw [raise_get] at hL ⊢
    have hla : lift i a (i + k) = x := by
      unfold lift
      rw [if_neg (by omega), show i + k - i = k by omega, List.getD_eq_getElem?_getD, ha]
      rfl
    rw [l1, if_neg (by omega)] at hL
    rw [l2, if_pos (by omega), hla]
    cases q : L[i + k]? with
    | none => rw [q] at hL; cases hL
    | some z =>
      rw [q] at hL
      simp only [Option.map_some, Nat.zero_max, Option.some.injEq] at hL ⊢
      subst hL
      omega
  · rw [List.getElem?_set_ne hm, raise_get, raise_get, l1, l2]
    by_cases h : m < i + k
    · rw [if_pos h, if_pos (by omega)]
    · rw [if_neg h, if_neg (by omega)]

/-- one pattern laid at one place, if its letters stand there -/
def lay (dotted : Text) (p : Pattern) (i : Nat) (L : List Nat) : List Nat :=
  if (dotted.drop i).take p.letters.length = p.letters then raiseAt i p.levels L else L
theorem lay_comm (d : Text) (p q : Pattern) (i j : Nat) (L : List Nat) : lay d p i (lay d q j L) = lay d q j (lay d p i L) := by
  unfold lay
  by_cases h1 : (d.drop i).take p.letters.length = p.letters <;> by_cases h2 : (d.drop j).take q.letters.length = q.letters
  · simp only [if_pos h1, if_pos h2]; exact raise_comm ..
  · simp only [if_pos h1, if_neg h2]
  · simp only [if_neg h1, if_pos h2]
  · simp only [if_neg h1, if_neg h2]
theorem lay_len (d : Text) (p : Pattern) (i : Nat) (L : List Nat) : (lay d p i L).length = L.length := by
  unfold lay
  split
  · exact raise_len ..
  · rfl
theorem prefix_take : ∀ (l t : List Nat), l.isPrefixOf t = decide (t.take l.length = l)
  | [], t => by simp
  | a :: l, [] => by simp
  | a :: l, b :: t => by
    simp only [List.isPrefixOf_cons₂, List.length_cons, List.take_succ_cons, List.cons.injEq, prefix_take l t]
    by_cases h : a = b
    · subst h; simp
    · have h' : ¬ b = a := fun e => h e.symm
      simp [h, h']
/-- the program's order: pattern by pattern -/
def levelsPy (ps : List Pattern) (d : Text) : List Nat :=
  ps.foldl (fun L p => (List.range (d.length + 1 - p.letters.length)).foldl (fun L i => lay d p i L) L) (List.replicate (d.length + 1) 0)
theorem fold_comm {α σ : Type} (f : α → σ → σ) (g : σ → σ) (h : ∀ a s, f a (g s) = g (f a s)) : ∀ (l : List α) (s : σ), l.foldl (fun s a => f a s) (g s) = g (l.foldl (fun s a => f a s) s)
  | [], _ => rfl
  | a :: l, s => by
    rw [List.foldl_cons, List.foldl_cons, h, fold_comm f g h l]
theorem fold_swap {α β σ : Type} (f : α → β → σ → σ) (hc : ∀ a b a' b' s, f a b (f a' b' s) = f a' b' (f a b s)) : ∀ (l : List α) (m : List β) (s : σ),
    l.foldl (fun s a => m.foldl (fun s b => f a b s) s) s = m.foldl (fun s b => l.foldl (fun s a => f a b s) s) s
  | [], m, s => by
    induction m generalizing s with
    | nil => rfl
    | cons b m ih => exact ih s
  | a :: l, m, s => by
    rw [List.foldl_cons, fold_swap f hc l m]
    induction m generalizing s with
    | nil => rfl
    | cons b m ih =>
      rw [List.foldl_cons, List.foldl_cons, List.foldl_cons, List.foldl_cons]
      have e : l.foldl (fun s a => f a b s) ((m.foldl (fun s b => f a b s) (f a b s))) = m.foldl (fun s b => f a b s) (l.foldl (fun s a => f a b s) (f a b s)) := by
        clear ih
        generalize f a b s = s'
        induction m generalizing s' with
        | nil => rfl
        | cons b' m ih2 =>
          rw [List.foldl_cons, List.foldl_cons]
          rw [ih2]
          rw [fold_comm (fun x s => f x b s) (f a b') (fun x s => hc _ _ _ _ _) l s']
      rw [e, ih]
theorem lay_far {d : Text} {p : Pattern} (hp : p.letters ≠ []) : ∀ (i : Nat) (L : List Nat), d.length + 1 - p.letters.length ≤ i → lay d p i L = L := fun i L h => by
  unfold lay
  rw [if_neg]
  intro e
  have := congrArg List.length e
  rw [List.length_take, List.length_drop] at this
  have : 0 < p.letters.length := List.length_pos_iff.mpr hp
  omega
theorem fold_range_far {σ : Type} (f : Nat → σ → σ) {a : Nat} (h : ∀ i s, a ≤ i → f i s = s) : ∀ (b : Nat), a ≤ b → ∀ s, (List.range b).foldl (fun s i => f i s) s = (List.range a).foldl (fun s i => f i s) s
  | 0, hb, s => by
    have : a = 0 := by omega
    subst this; rfl
  | b + 1, hb, s => by
    by_cases e : a = b + 1
    · subst e; rfl
    · rw [List.range_succ, List.foldl_append, fold_range_far f h b (by omega)]
      exact h b _ (by omega)
theorem levels_eq (ps : List Pattern) (d : Text) (h : ∀ p ∈ ps, p.letters ≠ []) : levelsPy ps d = levelsOf ps d := by
  unfold levelsPy levelsOf
  have e1 : (List.range d.length).foldl (fun levels i => ps.foldl (fun levels p => if p.letters.isPrefixOf (d.drop i) then raiseAt i p.levels levels else levels) levels) (List.replicate (d.length + 1) 0)
      = (List.range d.length).foldl (fun L i => ps.foldl (fun L p => lay d p i L) L) (List.replicate (d.length + 1) 0) := by
    congr 1
    funext L i
    congr 1
    funext L p
    rw [prefix_take]
    unfold lay
    by_cases h : (d.drop i).take p.letters.length = p.letters <;> simp [h]
  rw [e1, fold_swap (fun i p L => lay d p i L) (fun a b a' b' s => lay_comm ..)]
  generalize List.replicate (d.length + 1) 0 = L0
  induction ps generalizing L0 with
  | nil => rfl
  | cons p ps ih =>
    rw [List.foldl_cons, List.foldl_cons, ih (fun q hq => h q (List.mem_cons_of_mem _ hq))]
    · congr 1
      refine (fold_range_far (fun i L => lay d p i L) (fun i s hi => lay_far (h p List.mem_cons_self) i s hi) d.length ?_ L0).symm
      have : 0 < p.letters.length := List.length_pos_iff.mpr (h p List.mem_cons_self)
      omega
    · have e1' := e1
      clear ih e1
      congr 1
      funext L i
      congr 1
      funext L p
      rw [prefix_take]
      unfold lay
      by_cases h : (d.drop i).take p.letters.length = p.letters <;> simp [h]
/-! ### positions -/
theorem range_between (q : Nat → Bool) (a b N : Nat) (hb : b ≤ N) : (List.range N).filter (fun k => decide (a ≤ k) && decide (k < b) && q k) = ((List.range (b - a)).map (a + ·)).filter q := by
  induction N generalizing b with
  | zero =>
    have : b - a = 0 := by omega
    simp [this]
  | succ N ih =>
    rw [List.range_succ, List.filter_append]
    by_cases hN : b ≤ N
    · rw [ih b hN]
      have : ¬ N < b := by omega
      simp [this]
    · have hb' : b = N + 1 := by omega
      subst hb'
      have e : (List.range N).filter (fun k => decide (a ≤ k) && decide (k < N + 1) && q k) = (List.range N).filter (fun k => decide (a ≤ k) && decide (k < N) && q k) := by
        apply List.filter_congr
        intro k hk
        have := List.mem_range.mp hk
        simp [this, show k < N + 1 by omega]
      rw [e, ih N (Nat.le_refl _)]
      by_cases ha : a ≤ N
      · have : N + 1 - a = (N - a) + 1 := by omega
        rw [this, List.range_succ, List.map_append, List.filter_append]
        congr 1
        have : a + (N - a) = N := by omega
        simp [ha, this, List.filter_cons]
      · have h1 : N + 1 - a = 0 := by omega
        have h2 : N - a = 0 := by omega
        rw [h1, h2]
        simp [ha]
theorem hyphenate_eq (ps : List Pattern) (w : Text) (hp : ∀ p ∈ ps, p.letters ≠ []) : Kh455.hyphenate ps w =
    if w.all Kh455.isLetter then ((List.range (w.length - 3)).map (2 + ·)).filter (fun k => (levelsPy ps ([46] ++ w.map Kh450.lowerCase ++ [46])).getD (k + 1) 0 % 2 == 1) else [] := by
  unfold Kh455.hyphenate
  by_cases h : w.all Kh455.isLetter = true
  · rw [if_neg (by simp [h]), if_pos h]
    dsimp only
    rw [levels_eq _ _ hp]
    by_cases hw : 2 ≤ w.length
    · have := range_between (fun k => (levelsOf ps ([46] ++ w.map Kh450.lowerCase ++ [46])).getD (k + 1) 0 % 2 == 1) 2 (w.length - 1) (w.length + 1) (by omega)
      rw [show w.length - 3 = w.length - 1 - 2 by omega, ← this]
      apply List.filter_congr
      intro k _
      have : decide (k + 2 ≤ w.length) = decide (k < w.length - 1) := by
        by_cases h1 : k + 2 ≤ w.length
        · rw [decide_eq_true h1, decide_eq_true (by omega)]
        · rw [decide_eq_false h1, decide_eq_false (by omega)]
      rw [this]
    · have h1 : w.length - 3 = 0 := by omega
      rw [h1]
      simp only [List.range_zero, List.map_nil, List.filter_nil]
      rw [List.filter_eq_nil_iff]
      intro k _
      have : ¬ k + 2 ≤ w.length ∨ ¬ 2 ≤ k := by omega
      rcases this with q | q <;> simp [q]
  · rw [if_pos (by simp [h]), if_neg h]
/-! ### the whole -/
def nats (l : List Int) : List Nat := l.map Int.toNat
theorem pats_letters : ∀ (ws : List Text) (ps : List Pattern), pats ws = some ps → ∀ p ∈ ps, p.letters ≠ [] ∧ p.levels.length = p.letters.length + 1
  | [], ps, h, p, hp => by
    cases h; cases hp
  | w :: r, ps, h, p, hp => by
    unfold pats at h
    cases e : patOf w with
    | none => rw [e] at h; cases h
    | some q =>
      cases e2 : pats r with
      | none => rw [e, e2] at h; cases h
      | some l =>
        rw [e, e2] at h
        cases h
        rcases List.mem_cons.mp hp with z | z
        · subst z
          unfold patOf at e
          cases e3 : Kh455.readPattern w with
          | none => rw [e3] at e; cases e
          | some p' =>
            rw [e3] at e
            simp only at e
            by_cases h4 : p'.letters.isEmpty = true
            · rw [if_pos h4] at e; cases e
            · rw [if_neg h4] at e
              cases e
              exact ⟨fun z => h4 (by rw [z]; rfl), read_levels w p e3⟩
        · exact pats_letters r l e2 p z
def asInts (l : List Nat) : List Int := l.map Int.ofNat
/-- what hyphenate answers -/
theorem top_eq (a b : List Int) : PyKh455.hyphenate a b = (match Kh450.decodeAll (nats a) with
    | none => [-24]
    | some t => match pats (Kh455.wordsOf t) with
      | none => [-21]
      | some ps => match Kh450.decodeAll (nats b) with
        | none => [-24]
        | some w => ((Kh455.hyphenate ps w).length : Int) :: asInts (Kh455.hyphenate ps w)) := by
  show Kh455Neutral.integers (Kh455.answer (.hyphenate (nats a) (nats b))) = _
  unfold Kh455.answer
  show Kh455Neutral.integers (Kh455.withPatterns (nats a) _) = _
  unfold Kh455.withPatterns Kh450.withText
  cases Kh450.decodeAll (nats a) with
  | none => rfl
  | some t =>
    show Kh455Neutral.integers (match Kh455.readPatterns t with | none => _ | some p => _) = _
    rw [readPatterns_eq]
    show _ = (match pats (Kh455.wordsOf t) with
      | none => [-21]
      | some ps => match Kh450.decodeAll (nats b) with
        | none => [-24]
        | some w => ((Kh455.hyphenate ps w).length : Int) :: asInts (Kh455.hyphenate ps w))
    cases pats (Kh455.wordsOf t) with
    | none => rfl
    | some ps =>
      show Kh455Neutral.integers (match Kh450.decodeAll (nats b) with | none => _ | some p => _) = _
      cases Kh450.decodeAll (nats b) with
      | none => rfl
      | some w => rfl
end Pm

namespace Pm
open Kh455 (Piece Joint splitHyphens cutAt partPieces wordPieces pieces lineText Pattern)

/-! ### parts of a word -/
/-- letters ahead of the first part -/
def ahead (x : List Nat) : List (List Nat) → List (List Nat)
  | [] => []
  | f :: o => (x ++ f) :: o
theorem split_full : ∀ t : List Nat, splitHyphens t ≠ []
  | [] => by simp [splitHyphens]
  | c :: r => by
    unfold splitHyphens
    dsimp only
    split
    · simp
    · split <;> simp
theorem split_cut {c d : Nat} {r : List Nat} (h1 : c = 45) (h2 : d ≠ 45) : splitHyphens (c :: d :: r) = [c] :: splitHyphens (d :: r) := by
  conv => lhs; unfold splitHyphens
  dsimp only
  rw [if_pos]
  refine ⟨h1, rfl, ?_⟩
  intro z
  exact h2 (Option.some.inj z)
theorem split_keep {c d : Nat} {r : List Nat} (h : ¬ (c = 45 ∧ d ≠ 45)) : splitHyphens (c :: d :: r) = ahead [c] (splitHyphens (d :: r)) := by
  conv => lhs; unfold splitHyphens
  dsimp only
  rw [if_neg]
  · cases e : splitHyphens (d :: r) with
    | nil => exact absurd e (split_full _)
    | cons f o => rfl
  · rintro ⟨h1, _, h3⟩
    exact h ⟨h1, fun z => h3 (by rw [z]; rfl)⟩
theorem ahead_nil {l : List (List Nat)} : ahead [] l = l := by
  cases l <;> rfl
theorem ahead_ahead (x y : List Nat) (l : List (List Nat)) : ahead x (ahead y l) = ahead (x ++ y) l := by
  cases l with
  | nil => rfl
  | cons f o =>
    show (x ++ (y ++ f)) :: o = _
    rw [← List.append_assoc]
    rfl
/-- the loop of parts_of: the parts that are ended, where the one under way starts; at the place j -/
def SplitAt (w : List Nat) (P : List (List Nat)) (start j : Nat) : Prop := start ≤ j ∧ splitHyphens w = P ++ ahead ((w.drop start).take (j - start)) (splitHyphens (w.drop j))
theorem split_start (w : List Nat) : SplitAt w [] 0 0 := ⟨Nat.le_refl _, by simp [ahead_nil]⟩
theorem take_snoc {w : List Nat} {start j c : Nat} (h : start ≤ j) (hc : w[j]? = some c) : (w.drop start).take (j - start) ++ [c] = (w.drop start).take (j + 1 - start) := by
  have e : j + 1 - start = j - start + 1 := by omega
  rw [e, List.take_add_one]
  have q : (w.drop start)[j - start]? = some c := by
    rw [List.getElem?_drop, show start + (j - start) = j by omega]
    exact hc
  rw [q]
  rfl
theorem split_step {w : List Nat} {P : List (List Nat)} {start j c d : Nat} (h : SplitAt w P start j) (hc : w[j]? = some c) (hd : w[j + 1]? = some d) :
    SplitAt w (if c = 45 ∧ d ≠ 45 then P ++ [(w.drop start).take (j + 1 - start)] else P) (if c = 45 ∧ d ≠ 45 then j + 1 else start) (j + 1) := by
  obtain ⟨h1, h2⟩ := h
  have hj : w.drop j = c :: w.drop (j + 1) := by
    obtain ⟨hl, e⟩ := List.getElem?_eq_some_iff.mp hc
    rw [← e]
    exact List.drop_eq_getElem_cons hl
  have hj1 : w.drop (j + 1) = d :: w.drop (j + 2) := by
    obtain ⟨hl, e⟩ := List.getElem?_eq_some_iff.mp hd
    rw [← e]
    exact List.drop_eq_getElem_cons hl
  rw [hj, hj1] at h2
  by_cases q : c = 45 ∧ d ≠ 45
  · rw [if_pos q, if_pos q]
    refine ⟨Nat.le_refl _, ?_⟩
    rw [h2, split_cut q.1 q.2, Nat.sub_self, List.take_zero, ahead_nil, ← hj1, ← take_snoc h1 hc]
    show P ++ (_ :: _) = _
    rw [List.append_assoc]
    rfl
  · rw [if_neg q, if_neg q]
    refine ⟨Nat.le_succ_of_le h1, ?_⟩
    rw [h2, split_keep q, ahead_ahead, take_snoc h1 hc, ← hj1]
theorem split_end {w : List Nat} {P : List (List Nat)} {start : Nat} (h : SplitAt w P start (w.length - 1)) : splitHyphens w = P ++ [w.drop start] := by
  obtain ⟨h1, h2⟩ := h
  rw [h2]
  congr 1
  cases w with
  | nil => simp [splitHyphens, ahead]
  | cons a r =>
    have hl : (a :: r).length - 1 < (a :: r).length := by simp
    have hc := List.getElem?_eq_getElem hl
    have hj := List.drop_eq_getElem_cons hl
    generalize (a :: r)[(a :: r).length - 1] = c at hc hj
    have hn : (a :: r).drop ((a :: r).length - 1 + 1) = [] := by
      apply List.drop_eq_nil_of_le
      omega
    rw [hn] at hj
    rw [hj]
    have e : splitHyphens [c] = [[c]] := by simp [splitHyphens]
    rw [e]
    show [_ ++ [c]] = _
    rw [take_snoc h1 hc]
    congr 1
    apply List.take_of_length_le
    rw [List.length_drop]
    omega
/-- the parts are not longer than the word, and none is empty -/
theorem split_parts : ∀ (t : List Nat), ∀ p ∈ splitHyphens t, p.length ≤ t.length ∧ (t ≠ [] → p ≠ [])
  | [], p, h => by
    simp [splitHyphens] at h
    subst h
    simp
  | [c], p, h => by
    simp [splitHyphens] at h
    subst h
    simp
  | c :: d :: r, p, h => by
    have ih := split_parts (d :: r)
    by_cases q : c = 45 ∧ d ≠ 45
    · rw [split_cut q.1 q.2] at h
      rcases List.mem_cons.mp h with z | z
      · subst z
        simp
      · obtain ⟨h1, h2⟩ := ih p z
        exact ⟨Nat.le_succ_of_le h1, fun _ => h2 (by simp)⟩
    · rw [split_keep q] at h
      cases e : splitHyphens (d :: r) with
      | nil => exact absurd e (split_full _)
      | cons f o =>
        rw [e] at h ih
        rcases List.mem_cons.mp h with z | z
        · subst z
          obtain ⟨h1, _⟩ := ih f List.mem_cons_self
          exact ⟨by simp only [List.length_append, List.length_cons, List.length_nil] at h1 ⊢; omega, fun _ => by simp⟩
        · obtain ⟨h1, h2⟩ := ih p (List.mem_cons_of_mem _ z)
          exact ⟨Nat.le_succ_of_le h1, fun _ => h2 (by simp)⟩
theorem split_count : ∀ (t : List Nat), (splitHyphens t).length ≤ t.length + 1
  | [] => by simp [splitHyphens]
  | [c] => by simp [splitHyphens]
  | c :: d :: r => by
    have ih := split_count (d :: r)
    by_cases q : c = 45 ∧ d ≠ 45
    · rw [split_cut q.1 q.2]
      simp only [List.length_cons] at ih ⊢
      omega
    · rw [split_keep q]
      cases e : splitHyphens (d :: r) with
      | nil => exact absurd e (split_full _)
      | cons f o =>
        rw [e] at ih
        simp only [List.length_cons, ahead] at ih ⊢
        omega

/-! ### pieces of a part -/
def cuts (last : Joint) : Nat → List Nat → List Nat → List Piece
  | _, [], t => [⟨t, last⟩]
  | start, p :: r, t => ⟨t.take (p - start), .hyphen⟩ :: cuts last p r (t.drop (p - start))
theorem cutAt_full : ∀ (s : Nat) (l t : List Nat), cutAt s l t ≠ []
  | _, [], t => by simp [cutAt]
  | _, _ :: _, t => by simp [cutAt]
theorem cuts_zip (last : Joint) : ∀ (l : List Nat) (s : Nat) (t : List Nat) (k : Nat),
    ((cutAt s l t).zipIdx k).map (fun p => (⟨p.1, if p.2 + 1 = k + (cutAt s l t).length then last else .hyphen⟩ : Piece)) = cuts last s l t
  | [], s, t, k => by simp [cutAt, cuts]
  | p :: r, s, t, k => by
    have ih := cuts_zip last r p (t.drop (p - s)) (k + 1)
    have e : cutAt s (p :: r) t = t.take (p - s) :: cutAt p r (t.drop (p - s)) := rfl
    have ne : 0 < (cutAt p r (t.drop (p - s))).length := List.length_pos_iff.mpr (cutAt_full _ _ _)
    rw [e, List.zipIdx_cons, List.map_cons, List.length_cons]
    show _ :: _ = _ :: _
    rw [if_neg (by omega)]
    congr 1
    rw [← ih]
    congr 1
    funext q
    rw [show k + ((cutAt p r (t.drop (p - s))).length + 1) = k + 1 + (cutAt p r (t.drop (p - s))).length by omega]
theorem partPieces_eq (ps : List Pattern) (part : List Nat) (last : Joint) : partPieces ps part last = cuts last 0 (Kh455.hyphenate ps part) part := by
  have h := cuts_zip last (Kh455.hyphenate ps part) 0 part 0
  unfold partPieces
  rw [← h]
  dsimp only
  congr 1
  funext q
  rw [Nat.zero_add]
/-- positions in a word stand in order, between 2 letters at each end -/
def Rising : Nat → List Nat → Prop
  | _, [] => True
  | s, p :: r => s < p ∧ Rising p r
theorem rising_filter (q : Nat → Bool) : ∀ (n a s : Nat), s < a → Rising s (((List.range n).map (a + ·)).filter q)
  | 0, a, s, h => trivial
  | n + 1, a, s, h => by
    rw [List.range_succ_eq_map, List.map_cons, List.map_map, List.filter_cons]
    have e : (List.range n).map ((a + ·) ∘ Nat.succ) = (List.range n).map ((a + 1) + ·) := by
      apply List.map_congr_left
      intro x _
      show a + (x + 1) = a + 1 + x
      omega
    rw [e]
    split
    · exact ⟨h, rising_filter q n (a + 1) a (by omega)⟩
    · exact rising_filter q n (a + 1) s (by omega)
theorem hyph_rising (ps : List Pattern) (w : List Nat) (hp : ∀ p ∈ ps, p.letters ≠ []) : Rising 0 (Kh455.hyphenate ps w) ∧ ∀ k ∈ Kh455.hyphenate ps w, k + 2 ≤ w.length := by
  rw [hyphenate_eq ps w hp]
  split
  · refine ⟨rising_filter _ _ _ _ (by decide), fun k hk => ?_⟩
    have := (List.mem_filter.mp hk).1
    obtain ⟨i, hi, e⟩ := List.mem_map.mp this
    have := List.mem_range.mp hi
    omega
  · exact ⟨trivial, fun k hk => by cases hk⟩
theorem hyph_len (ps : List Pattern) (w : List Nat) (hp : ∀ p ∈ ps, p.letters ≠ []) : (Kh455.hyphenate ps w).length ≤ w.length := by
  rw [hyphenate_eq ps w hp]
  split
  · refine Nat.le_trans (List.length_filter_le _ _) ?_
    rw [List.length_map, List.length_range]
    omega
  · exact Nat.zero_le _
/-- no piece of a part is empty; they are not longer than the part -/
theorem cuts_full (last : Joint) : ∀ (l : List Nat) (s : Nat) (t : List Nat), Rising s l → (∀ k ∈ l, k < s + t.length) → t ≠ [] → ∀ p ∈ cuts last s l t, p.content ≠ [] ∧ p.content.length ≤ t.length
  | [], s, t, _, _, ht, p, hp => by
    rw [List.mem_singleton.mp hp]
    exact ⟨ht, Nat.le_refl _⟩
  | q :: r, s, t, hr, hk, ht, p, hp => by
    obtain ⟨h1, h2⟩ := hr
    have hq := hk q List.mem_cons_self
    rcases List.mem_cons.mp hp with z | z
    · subst z
      refine ⟨fun e => ?_, by rw [List.length_take]; omega⟩
      have := congrArg List.length e
      rw [List.length_take, List.length_nil] at this
      omega
    · have hl : (t.drop (q - s)).length = t.length - (q - s) := List.length_drop
      have ih := cuts_full last r q (t.drop (q - s)) h2 (fun k hk' => by
          have := hk k (List.mem_cons_of_mem _ hk')
          rw [hl]
          omega) (fun e => by
          have := congrArg List.length e
          rw [hl, List.length_nil] at this
          omega) p z
      exact ⟨ih.1, by rw [hl] at ih; omega⟩
theorem cuts_count (last : Joint) : ∀ (l : List Nat) (s : Nat) (t : List Nat), (cuts last s l t).length = l.length + 1
  | [], _, _ => rfl
  | p :: r, s, t => by
    show (cuts last p r _).length + 1 = _
    rw [cuts_count last r]
    rfl
/-- the sizes of the pieces are the part's -/
theorem cuts_sum (last : Joint) : ∀ (l : List Nat) (s : Nat) (t : List Nat), ((cuts last s l t).map fun p => p.content.length).sum = t.length
  | [], _, t => by simp [cuts]
  | p :: r, s, t => by
    show (t.take (p - s)).length + ((cuts last p r (t.drop (p - s))).map fun p => p.content.length).sum = t.length
    rw [cuts_sum last r, List.length_take, List.length_drop]
    omega

/-! ### pieces of a word -/
theorem wordPieces_eq (ps : List Pattern) (w : List Nat) {front : List (List Nat)} {last : List Nat} (h : splitHyphens w = front ++ [last]) :
    wordPieces ps w = front.flatMap (fun p => partPieces ps p .plain) ++ partPieces ps last .space := by
  unfold wordPieces
  dsimp only
  rw [h]
  have gen : ∀ (f : List (List Nat)) (k n : Nat), k + f.length + 1 = n → ((f ++ [last]).zipIdx k).flatMap (fun p => partPieces ps p.1 (if p.2 + 1 = n then .space else .plain)) = f.flatMap (fun p => partPieces ps p .plain) ++ partPieces ps last .space := by
    intro f
    induction f with
    | nil =>
      intro k n hn
      simp only [List.nil_append, List.zipIdx_cons, List.zipIdx_nil, List.flatMap_cons, List.flatMap_nil, List.append_nil]
      rw [if_pos (by simpa using hn)]
    | cons a f ih =>
      intro k n hn
      simp only [List.cons_append, List.zipIdx_cons, List.flatMap_cons, List.length_cons] at hn ⊢
      rw [if_neg (by omega), ih (k + 1) n (by omega), List.append_assoc]
  exact gen front 0 (front ++ [last]).length (by simp)
end Pm

namespace Pm
open Kh455 (Piece Joint splitHyphens partPieces wordPieces pieces Pattern)
def sizes (l : List (List Nat)) : Nat := (l.map List.length).sum
def letters (l : List Piece) : Nat := (l.map fun p => p.content.length).sum
theorem sizes_cat (a b : List (List Nat)) : sizes (a ++ b) = sizes a + sizes b := by
  unfold sizes
  rw [List.map_append, List.sum_append]
theorem letters_cat (a b : List Piece) : letters (a ++ b) = letters a + letters b := by
  unfold letters
  rw [List.map_append, List.sum_append]
theorem split_sum : ∀ (t : List Nat), sizes (splitHyphens t) = t.length
  | [] => by simp [splitHyphens, sizes]
  | [c] => by simp [splitHyphens, sizes]
  | c :: d :: r => by
    have ih := split_sum (d :: r)
    by_cases q : c = 45 ∧ d ≠ 45
    · rw [split_cut q.1 q.2]
      show 1 + sizes (splitHyphens (d :: r)) = _
      rw [ih]
      simp only [List.length_cons]
      omega
    · rw [split_keep q]
      cases e : splitHyphens (d :: r) with
      | nil => exact absurd e (split_full _)
      | cons f o =>
        rw [e] at ih
        show ([c] ++ f).length + sizes o = _
        have z : sizes (f :: o) = f.length + sizes o := rfl
        rw [z] at ih
        simp only [List.length_cons, List.length_append, List.length_nil] at ih ⊢
        omega
theorem partPieces_letters (ps : List Pattern) (part : List Nat) (last : Joint) : letters (partPieces ps part last) = part.length := by
  rw [partPieces_eq]
  exact cuts_sum last _ 0 part
theorem partPieces_full (ps : List Pattern) (part : List Nat) (last : Joint) (hp : ∀ p ∈ ps, p.letters ≠ []) (h : part ≠ []) : ∀ p ∈ partPieces ps part last, p.content ≠ [] := by
  rw [partPieces_eq]
  obtain ⟨h1, h2⟩ := hyph_rising ps part hp
  exact fun p q => (cuts_full last _ 0 part h1 (fun k hk => by have := h2 k hk; omega) h p q).1
theorem flat_letters (f : List Nat → List Piece) (hf : ∀ w, letters (f w) = w.length) : ∀ l : List (List Nat), letters (l.flatMap f) = sizes l
  | [] => rfl
  | w :: l => by
    rw [List.flatMap_cons, letters_cat, hf, flat_letters f hf l]
    rfl
theorem front_last {l : List (List Nat)} (h : l ≠ []) : ∃ front last, l = front ++ [last] := ⟨l.dropLast, l.getLast h, (List.dropLast_concat_getLast h).symm⟩
theorem wordPieces_letters (ps : List Pattern) (w : List Nat) : letters (wordPieces ps w) = w.length := by
  obtain ⟨f, a, e⟩ := front_last (split_full w)
  rw [wordPieces_eq ps w e, letters_cat, flat_letters _ (fun p => partPieces_letters ps p .plain), partPieces_letters]
  have := split_sum w
  rw [e, sizes_cat] at this
  have z : sizes [a] = a.length := by simp [sizes]
  omega
theorem wordPieces_full (ps : List Pattern) (w : List Nat) (hp : ∀ p ∈ ps, p.letters ≠ []) (h : w ≠ []) : ∀ p ∈ wordPieces ps w, p.content ≠ [] := by
  obtain ⟨f, a, e⟩ := front_last (split_full w)
  rw [wordPieces_eq ps w e]
  have parts := split_parts w
  rw [e] at parts
  intro p hp'
  rcases List.mem_append.mp hp' with z | z
  · obtain ⟨q, hq, z⟩ := List.mem_flatMap.mp z
    exact partPieces_full ps q .plain hp ((parts q (List.mem_append_left _ hq)).2 h) p z
  · exact partPieces_full ps a .space hp ((parts a (List.mem_append_right _ List.mem_cons_self)).2 h) p z
theorem wRun_sum : ∀ (t : List Nat) (s : List (List Nat) × List Nat), sizes (t.foldl wStep s).1 + (t.foldl wStep s).2.length ≤ sizes s.1 + s.2.length + t.length
  | [], s => Nat.le_refl _
  | c :: r, s => by
    have ih := wRun_sum r (wStep s c)
    have h : sizes (wStep s c).1 + (wStep s c).2.length ≤ sizes s.1 + s.2.length + 1 := by
      unfold wStep
      split
      · split
        · omega
        · simp only [sizes_cat, List.length_nil]
          have z : sizes [s.2] = s.2.length := by simp [sizes]
          omega
      · simp only [List.length_append, List.length_cons, List.length_nil]
        omega
    rw [List.foldl_cons, List.length_cons]
    omega
theorem words_sum (t : List Nat) : sizes (Kh455.wordsOf t) ≤ t.length := by
  rw [← wEnd_all]
  have h := wRun_sum t ([], [])
  unfold wEnd
  have z : sizes ([] : List (List Nat)) = 0 := rfl
  simp only [z, List.length_nil, Nat.zero_add] at h
  split
  · omega
  · rw [sizes_cat]
    have z : ∀ x : List Nat, sizes [x] = x.length := fun x => by simp [sizes]
    rw [z]
    omega
theorem wRun_full : ∀ (t : List Nat) (s : List (List Nat) × List Nat), (∀ w ∈ s.1, w ≠ []) → ∀ w ∈ (t.foldl wStep s).1, w ≠ []
  | [], s, h => h
  | c :: r, s, h => by
    refine wRun_full r (wStep s c) ?_
    unfold wStep
    split
    · split
      · exact h
      · rename_i e
        intro w hw
        rcases List.mem_append.mp hw with z | z
        · exact h w z
        · rw [List.mem_singleton.mp z]
          intro q
          rw [q] at e
          exact e rfl
    · exact h
theorem words_full (t : List Nat) : ∀ w ∈ Kh455.wordsOf t, w ≠ [] := by
  rw [← wEnd_all]
  have h := wRun_full t ([], []) (by simp)
  unfold wEnd
  split
  · exact h
  · rename_i e
    intro w hw
    rcases List.mem_append.mp hw with z | z
    · exact h w z
    · rw [List.mem_singleton.mp z]
      intro q
      rw [q] at e
      exact e rfl
theorem pieces_letters (ps : List Pattern) (t : List Nat) : letters (pieces ps t) ≤ t.length := by
  unfold pieces
  rw [flat_letters _ (wordPieces_letters ps)]
  exact words_sum t
theorem pieces_full (ps : List Pattern) (t : List Nat) (hp : ∀ p ∈ ps, p.letters ≠ []) : ∀ p ∈ pieces ps t, p.content ≠ [] := by
  intro p h
  obtain ⟨w, hw, z⟩ := List.mem_flatMap.mp h
  exact wordPieces_full ps w hp (words_full t w hw) p z
theorem count_le : ∀ (l : List Piece), (∀ p ∈ l, p.content ≠ []) → l.length ≤ letters l
  | [], _ => Nat.zero_le _
  | p :: l, h => by
    have ih := count_le l fun q hq => h q (List.mem_cons_of_mem _ hq)
    have h1 : 0 < p.content.length := List.length_pos_iff.mpr (h p List.mem_cons_self)
    have z : letters (p :: l) = p.content.length + letters l := rfl
    rw [List.length_cons, z]
    omega
theorem content_le : ∀ (l : List Piece), ∀ p ∈ l, p.content.length ≤ letters l
  | q :: l, p, h => by
    have z : letters (q :: l) = q.content.length + letters l := rfl
    rcases List.mem_cons.mp h with e | e
    · rw [e, z]
      omega
    · have := content_le l p e
      omega
end Pm

namespace Pm
open Kh455 (Piece Joint lineText takeLines)
/-! ### the text of a line -/
def mid (p : Piece) : List Nat := p.content ++ (if p.joint = .space then [32] else [])
theorem line_front : ∀ (f : List Piece) (l : Piece), lineText (f ++ [l]) = f.flatMap mid ++ (l.content ++ (if l.joint = .hyphen then [45] else []))
  | [], l => rfl
  | [p], l => by
    show mid p ++ lineText [l] = _
    simp [lineText]
  | p :: q :: f, l => by
    have ih := line_front (q :: f) l
    have e : lineText (p :: q :: f ++ [l]) = mid p ++ lineText (q :: f ++ [l]) := rfl
    rw [e, ih, ← List.append_assoc]
    rfl
/-- the lines of numbers of pieces, each at least one, all of them there -/
def Fits : List Nat → Nat → Prop
  | [], _ => True
  | n :: r, m => 1 ≤ n ∧ n ≤ m ∧ Fits r (m - n)
theorem mid_len (p : Piece) : (mid p).length ≤ p.content.length + 1 := by
  unfold mid
  split <;> simp
theorem mid_sum : ∀ l : List Piece, (l.flatMap mid).length ≤ letters l + l.length
  | [] => Nat.le_refl _
  | p :: l => by
    have ih := mid_sum l
    have h := mid_len p
    have z : letters (p :: l) = p.content.length + letters l := rfl
    rw [List.flatMap_cons, List.length_append, List.length_cons, z]
    omega
theorem line_len (l : List Piece) : (lineText l).length ≤ letters l + l.length := by
  cases e : l with
  | nil => exact Nat.le_refl _
  | cons a r =>
    have ne : l ≠ [] := by
      rw [e]
      exact fun z => nomatch z
    rw [← e]
    have q := (List.dropLast_concat_getLast ne).symm
    generalize l.dropLast = f at q
    generalize l.getLast ne = x at q
    rw [q, line_front, letters_cat]
    have h := mid_sum f
    have z : letters [x] = x.content.length := by simp [letters]
    have hh : (if x.joint = .hyphen then [45] else ([] : List Nat)).length ≤ 1 := by
      split <;> simp
    rw [List.length_append, List.length_append, List.length_append, z]
    simp only [List.length_cons, List.length_nil]
    omega
theorem letters_take_drop (l : List Piece) (i n : Nat) : letters ((l.drop i).take n) ≤ letters l := by
  have e1 : letters l = letters (l.take i) + letters (l.drop i) := by rw [← letters_cat, List.take_append_drop]
  have e2 : letters (l.drop i) = letters ((l.drop i).take n) + letters ((l.drop i).drop n) := by rw [← letters_cat, List.take_append_drop]
  omega
/-! ### bytes -/
/-- how many bytes, as the program finds them -/
def wSize (c : Nat) : Nat := if c < 2048 then 2 else if c < 65536 then 3 else 4
theorem encode_eq (c : Nat) : Kh450.encodeUtf8 c = if c < 128 then [c] else
    (match wSize c with
      | 2 => [192 + c / 64, 128 + c % 64]
      | 3 => [224 + c / 64 / 64, 128 + c / 64 % 64, 128 + c % 64]
      | _ => [240 + c / 64 / 64 / 64, 128 + c / 64 / 64 % 64, 128 + c / 64 % 64, 128 + c % 64]) := by
  unfold Kh450.encodeUtf8 wSize
  by_cases h1 : c < 128
  · rw [if_pos h1, if_pos h1]
  · rw [if_neg h1, if_neg h1]
    by_cases h2 : c < 2048
    · rw [if_pos h2, if_pos h2]
      rfl
    · rw [if_neg h2, if_neg h2]
      by_cases h3 : c < 65536
      · rw [if_pos h3, if_pos h3]
        simp only [Nat.div_div_eq_div_mul]
      · rw [if_neg h3, if_neg h3]
        simp only [Nat.div_div_eq_div_mul]
theorem encode_len (c : Nat) : (Kh450.encodeUtf8 c).length ≤ 4 := by
  unfold Kh450.encodeUtf8
  split
  · simp
  · split
    · simp
    · split <;> simp
theorem encodeAll_len : ∀ t : List Nat, (Kh450.encodeAll t).length ≤ 4 * t.length
  | [] => Nat.le_refl _
  | c :: t => by
    have ih := encodeAll_len t
    have h := encode_len c
    show (Kh450.encodeUtf8 c ++ Kh450.encodeAll t).length ≤ _
    rw [List.length_append, List.length_cons]
    omega
/-! ### lines -/
/-- the loop of answer_lines: the text so far, line by line -/
def joinStep (i : Nat) (acc line : List Nat) : List Nat := (if 0 < i then acc ++ [10] else acc) ++ line
def joinTo (ls : List (List Nat)) : Nat → List Nat
  | 0 => []
  | i + 1 => joinStep i (joinTo ls i) (ls.getD i [])
theorem join_one (s x : List Nat) : Kh450.joinTexts s [x] = x := rfl
theorem join_two (s x y : List Nat) (r : List (List Nat)) : Kh450.joinTexts s (x :: y :: r) = x ++ s ++ Kh450.joinTexts s (y :: r) := rfl
theorem join_snoc (s : List Nat) : ∀ (l : List (List Nat)) (x : List Nat), l ≠ [] → Kh450.joinTexts s (l ++ [x]) = Kh450.joinTexts s l ++ s ++ x
  | [a], x, _ => rfl
  | a :: b :: l, x, _ => by
    have ih := join_snoc s (b :: l) x (fun z => nomatch z)
    show Kh450.joinTexts s (a :: b :: (l ++ [x])) = _
    rw [join_two, join_two]
    rw [List.cons_append] at ih
    rw [ih]
    simp only [List.append_assoc]
theorem joinTo_take (ls : List (List Nat)) : ∀ i, i ≤ ls.length → joinTo ls i = Kh450.joinTexts [10] (ls.take i)
  | 0, _ => rfl
  | i + 1, h => by
    have hi : i < ls.length := h
    have ih := joinTo_take ls i (Nat.le_of_lt hi)
    have e : ls.take (i + 1) = ls.take i ++ [ls.getD i []] := by
      rw [List.take_add_one, List.getD_eq_getElem?_getD, List.getElem?_eq_getElem hi]
      rfl
    show joinStep i (joinTo ls i) (ls.getD i []) = _
    rw [e, ih]
    unfold joinStep
    cases i with
    | zero => rfl
    | succ i =>
      rw [if_pos (Nat.succ_pos _), join_snoc]
      intro z
      have := congrArg List.length z
      rw [List.length_take, List.length_nil] at this
      omega
theorem join_len (ls : List (List Nat)) : (Kh450.joinTexts [10] ls).length ≤ sizes ls + ls.length := by
  induction ls with
  | nil => exact Nat.le_refl _
  | cons a r ih =>
    have z : sizes (a :: r) = a.length + sizes r := rfl
    cases r with
    | nil =>
      rw [join_one, z]
      omega
    | cons b r =>
      rw [join_two, z]
      simp only [List.length_append, List.length_cons, List.length_nil] at ih ⊢
      omega
end Pm

namespace Pm
open Kh455 (Piece Joint lineText takeLines lineCost Breaking better bestFrom bestAll bestBreaking)
theorem fits_len : ∀ (c : List Nat) (m : Nat), Fits c m → c.length ≤ m
  | [], _, _ => Nat.zero_le _
  | n :: r, m, h => by
    obtain ⟨h1, h2, h3⟩ := h
    have := fits_len r _ h3
    rw [List.length_cons]
    omega
/-! ### costs -/
def hyC (j : Joint) : Nat := if j = .hyphen then 50 else 0
def lCost (w len : Nat) (j : Joint) (last : Bool) : Nat := (if w < len then 10000 * (len - w) else if last then 0 else (w - len) ^ 2) + hyC j
/-! ### the lines that are allowed -/
def shownBy (len : Nat) (p : Piece) : Nat := len + p.content.length + (if p.joint = .hyphen then 1 else 0)
def lenBy (len : Nat) (p : Piece) : Nat := len + p.content.length + (if p.joint = .space then 1 else 0)
def allowedGo (w : Nat) : List Piece → Nat → Bool → List Nat
  | [], _, _ => []
  | p :: r, len, first => if first = false ∧ w < shownBy len p then [] else shownBy len p :: allowedGo w r (lenBy len p) false
def allowed (w : Nat) (l : List Piece) : List Nat := allowedGo w l 0 true
theorem allowed_len (w : Nat) : ∀ (l : List Piece) (len : Nat) (b : Bool), (allowedGo w l len b).length ≤ l.length
  | [], _, _ => Nat.le_refl _
  | p :: r, len, b => by
    unfold allowedGo
    split
    · exact Nat.zero_le _
    · have := allowed_len w r (lenBy len p) false
      simp only [List.length_cons]
      omega
/-- the length ahead of the k-th piece, with the spaces behind the pieces -/
def before (l : List Piece) : Nat := (l.flatMap mid).length
theorem before_snoc (l : List Piece) (p : Piece) : before (l ++ [p]) = lenBy (before l) p := by
  unfold before lenBy mid
  rw [List.flatMap_append, List.length_append]
  simp only [List.flatMap_cons, List.flatMap_nil, List.append_nil, List.length_append]
  split <;> simp <;> omega
theorem line_snoc (l : List Piece) (p : Piece) : (lineText (l ++ [p])).length = shownBy (before l) p := by
  rw [line_front]
  unfold before shownBy
  simp only [List.length_append]
  split <;> simp <;> omega
/-- in a line with a further piece, that isn't empty, no less stands than in the line without it -/
theorem line_grows {f : List Piece} {p q : Piece} (hq : q.content ≠ []) : (lineText (f ++ [p])).length ≤ (lineText (f ++ [p] ++ [q])).length := by
  rw [line_snoc, line_snoc, before_snoc]
  have : 0 < q.content.length := List.length_pos_iff.mpr hq
  unfold shownBy lenBy
  split <;> split <;> omega
/-- what the program lists: the lengths of the lines with 1, 2, .. pieces, so long as they are allowed -/
theorem allowed_run (w : Nat) : ∀ (r f : List Piece), (∀ p ∈ r, p.content ≠ []) → ∀ (k : Nat), k < (allowedGo w r (before f) (f.isEmpty)).length →
    k < r.length ∧ (allowedGo w r (before f) (f.isEmpty))[k]? = some ((lineText (f ++ r.take (k + 1))).length) ∧ (f.length + k = 0 ∨ (lineText (f ++ r.take (k + 1))).length ≤ w)
  | [], f, _, k, h => by
    exact absurd h (Nat.not_lt_zero _)
  | p :: r, f, hr, k, h => by
    unfold allowedGo at h ⊢
    by_cases c : f.isEmpty = false ∧ w < shownBy (before f) p
    · rw [if_pos c] at h
      exact absurd h (Nat.not_lt_zero _)
    · rw [if_neg c] at h ⊢
      have e : allowedGo w r (lenBy (before f) p) false = allowedGo w r (before (f ++ [p])) (f ++ [p]).isEmpty := by
        rw [before_snoc]
        cases f <;> rfl
      cases k with
      | zero =>
        refine ⟨Nat.succ_pos _, ?_, ?_⟩
        · show some (shownBy (before f) p) = some (lineText (f ++ [p])).length
          rw [line_snoc]
        · show f.length + 0 = 0 ∨ (lineText (f ++ [p])).length ≤ w
          rw [line_snoc]
          cases f with
          | nil => exact .inl rfl
          | cons a f =>
            right
            exact Nat.le_of_not_lt fun z => c ⟨rfl, z⟩
      | succ k =>
        rw [e] at h ⊢
        have ih := allowed_run w r (f ++ [p]) (fun q hq => hr q (List.mem_cons_of_mem _ hq)) k (by simpa using h)
        refine ⟨Nat.succ_lt_succ ih.1, ?_, ?_⟩
        · show (allowedGo w r (before (f ++ [p])) (f ++ [p]).isEmpty)[k]? = _
          rw [ih.2.1, List.append_assoc]
          rfl
        · right
          have z := ih.2.2
          rw [List.append_assoc] at z
          rcases z with z | z
          · simp at z
          · exact z
/-- all others are not: they are too long, and have several pieces -/
theorem allowed_ends (w : Nat) : ∀ (r f : List Piece), (∀ p ∈ r, p.content ≠ []) → ∀ (k : Nat), (allowedGo w r (before f) (f.isEmpty)).length ≤ k → k < r.length → w < (lineText (f ++ r.take (k + 1))).length ∧ f.length + k ≠ 0
  | [], f, _, k, _, h => absurd h (Nat.not_lt_zero _)
  | p :: r, f, hr, k, h, hk => by
    unfold allowedGo at h
    by_cases c : f.isEmpty = false ∧ w < shownBy (before f) p
    · have hf : f.length ≠ 0 := by
        intro z
        rw [List.length_eq_zero_iff.mp z] at c
        exact absurd c.1 (by simp)
      refine ⟨?_, by omega⟩
      -- from here on they only grow
      have grow : ∀ (t : List Piece) (f : List Piece) (p : Piece), (∀ q ∈ t, q.content ≠ []) → ∀ j, w < (lineText (f ++ [p])).length → w < (lineText (f ++ [p] ++ t.take j)).length := by
        intro t
        induction t with
        | nil =>
          intro f p _ j hw
          simpa using hw
        | cons q t ih =>
          intro f p hq j hw
          cases j with
          | zero => simpa using hw
          | succ j =>
            have g := line_grows (f := f) (p := p) (hq q List.mem_cons_self)
            have := ih (f ++ [p]) q (fun x hx => hq x (List.mem_cons_of_mem _ hx)) j (by omega)
            rw [List.take_succ_cons]
            simpa using this
      have := grow r f p (fun q hq => hr q (List.mem_cons_of_mem _ hq)) k (by rw [line_snoc]; exact c.2)
      rw [List.take_succ_cons]
      simpa using this
    · rw [if_neg c] at h
      have e : allowedGo w r (lenBy (before f) p) false = allowedGo w r (before (f ++ [p])) (f ++ [p]).isEmpty := by
        rw [before_snoc]
        cases f <;> rfl
      rw [e] at h
      cases k with
      | zero => simp at h
      | succ k =>
        have ih := allowed_ends w r (f ++ [p]) (fun q hq => hr q (List.mem_cons_of_mem _ hq)) k (by simpa using h) (by simpa using hk)
        refine ⟨?_, by omega⟩
        have z := ih.1
        rw [List.append_assoc] at z
        rw [List.take_succ_cons]
        exact z
end Pm

namespace Pm
open Kh455 (Piece Joint lineText takeLines lineCost Breaking better bestFrom bestAll bestBreaking)
theorem bestAll_get (w : Nat) : ∀ (l : List Piece) (j : Nat), j ≤ l.length → (bestAll w l)[j]? = some (bestBreaking w (l.drop j))
  | [], j, h => by
    have e : j = 0 := by simpa using h
    subst e
    rfl
  | p :: r, 0, _ => rfl
  | p :: r, j + 1, h => by
    show (bestFrom w (p :: r) (bestAll w r) :: bestAll w r)[j + 1]? = _
    rw [List.getElem?_cons_succ, bestAll_get w r j (by simpa using h)]
    rfl
theorem bestAll_len (w : Nat) : ∀ l : List Piece, (bestAll w l).length = l.length + 1
  | [] => rfl
  | p :: r => by
    show (bestAll w r).length + 1 = _
    rw [bestAll_len w r]
    rfl
/-- the length of the line of the first k + 1 pieces; the joint of its last one -/
def lens (l : List Piece) (k : Nat) : Nat := (lineText (l.take (k + 1))).length
def jointAt (l : List Piece) (k : Nat) : Joint := ((l[k]?).map Piece.joint).getD .space
theorem lineCost_eq {w : Nat} {l : List Piece} (hl : ∀ p ∈ l, p.content ≠ []) {k : Nat} (hk : k < l.length) :
    lineCost w (l.take (k + 1)) (k + 1 == l.length) = if k < (allowed w l).length then some (lCost w (lens l k) (jointAt l k) (decide (k + 1 = l.length))) else none := by
  have hlast : (l.take (k + 1)).getLast?.map Piece.joint = some (jointAt l k) := by
    have e : l.take (k + 1) = l.take k ++ [l[k]] := by
      rw [List.take_add_one, List.getElem?_eq_getElem hk]
      rfl
    rw [e, List.getLast?_append]
    unfold jointAt
    rw [List.getElem?_eq_getElem hk]
    simp
  have hlen : (l.take (k + 1)).length = k + 1 := by
    rw [List.length_take]
    omega
  unfold lineCost
  rw [hlast, hlen]
  dsimp only
  have hb : (k + 1 == l.length) = decide (k + 1 = l.length) := by
    rw [Bool.eq_iff_iff, beq_iff_eq, decide_eq_true_eq]
  have hh : (if some (jointAt l k) = some Joint.hyphen then 50 else 0) = hyC (jointAt l k) := by
    unfold hyC
    by_cases h : jointAt l k = .hyphen
    · rw [if_pos h, if_pos (congrArg some h)]
    · rw [if_neg h, if_neg fun z => h (Option.some.inj z)]
  rw [hb, hh]
  by_cases ha : k < (allowed w l).length
  · rw [if_pos ha]
    obtain ⟨_, _, h3⟩ := allowed_run w l [] hl k ha
    have h3 : k = 0 ∨ lens l k ≤ w := by
      have z := h3
      simp only [List.length_nil, Nat.zero_add, List.nil_append] at z
      exact z
    show (if lens l k ≤ w then _ else _) = _
    unfold lCost
    by_cases hw : lens l k ≤ w
    · rw [if_pos hw, if_neg (Nat.not_lt.mpr hw)]
      rfl
    · have h0 : k + 1 = 1 := by omega
      rw [if_neg hw, if_pos h0, if_pos (Nat.lt_of_not_le hw)]
      rfl
  · rw [if_neg ha]
    obtain ⟨h1, h2⟩ := allowed_ends w l [] hl k (Nat.le_of_not_lt ha) hk
    have h1 : w < lens l k := h1
    have h2 : k ≠ 0 := by simpa using h2
    show (if lens l k ≤ w then _ else _) = _
    rw [if_neg (by omega), if_neg (by omega)]
/-- a line of k + 1 pieces, and the best division of what follows -/
def cand (w : Nat) (l : List Piece) (k : Nat) : Breaking := (lCost w (lens l k) (jointAt l k) (decide (k + 1 = l.length)) + (bestBreaking w (l.drop (k + 1))).1, (k + 1) :: (bestBreaking w (l.drop (k + 1))).2)
def pyBest (w : Nat) (l : List Piece) (i : Nat) : Option Breaking := (List.range i).foldl (fun b k => better b (some (cand w l k))) none
theorem pyBest_succ (w : Nat) (l : List Piece) (i : Nat) : pyBest w l (i + 1) = better (pyBest w l i) (some (cand w l i)) := by
  unfold pyBest
  rw [List.range_succ, List.foldl_append]
  rfl
theorem better_none (a : Option Breaking) : better a none = a := by
  cases a <;> rfl
theorem fold_none : ∀ (n : Nat) (a : Option Breaking), (List.replicate n none).foldl better a = a
  | 0, _ => rfl
  | n + 1, a => by
    rw [List.replicate_succ, List.foldl_cons, better_none, fold_none n a]
theorem best_cons {w : Nat} {p : Piece} {r : List Piece} (hl : ∀ q ∈ p :: r, q.content ≠ []) : bestBreaking w (p :: r) = (pyBest w (p :: r) (allowed w (p :: r)).length).getD (0, []) := by
  show bestFrom w (p :: r) (bestAll w r) = _
  unfold bestFrom
  congr 1
  have hm := allowed_len w (p :: r) 0 true
  have hm : (allowed w (p :: r)).length ≤ (p :: r).length := hm
  generalize hl' : p :: r = l at *
  have ends : (bestAll w r).zipIdx.map (fun q => (lineCost w (l.take (q.2 + 1)) (q.2 + 1 == l.length)).map fun cost => ((cost + q.1.1, (q.2 + 1) :: q.1.2) : Breaking)) =
      (List.range l.length).map fun k => if k < (allowed w l).length then some (cand w l k) else none := by
    apply List.ext_getElem?
    intro k
    rw [List.getElem?_map, List.getElem?_map, List.getElem?_zipIdx]
    have len : (bestAll w r).length = l.length := by
      rw [bestAll_len, ← hl']
      rfl
    by_cases hk : k < l.length
    · have hr : k ≤ r.length := by
        rw [← hl', List.length_cons] at hk
        omega
      rw [bestAll_get w r k hr, List.getElem?_range hk]
      simp only [Option.map_some, Nat.zero_add]
      rw [lineCost_eq hl hk]
      have dr : r.drop k = l.drop (k + 1) := by
        rw [← hl']
        rfl
      rw [dr]
      by_cases ha : k < (allowed w l).length
      · rw [if_pos ha, if_pos ha]
        rfl
      · rw [if_neg ha, if_neg ha]
        rfl
    · rw [List.getElem?_eq_none (by rw [len]; omega), List.getElem?_eq_none (by rw [List.length_range]; omega)]
      rfl
  show List.foldl better none ((bestAll w r).zipIdx.map (fun q => (lineCost w (l.take (q.2 + 1)) (q.2 + 1 == l.length)).map fun cost => ((cost + q.1.1, (q.2 + 1) :: q.1.2) : Breaking))) = _
  rw [ends]
  have split : (List.range l.length).map (fun k => if k < (allowed w l).length then some (cand w l k) else none) =
      ((List.range (allowed w l).length).map fun k => some (cand w l k)) ++ List.replicate (l.length - (allowed w l).length) none := by
    apply List.ext_getElem?
    intro k
    by_cases hk : k < l.length
    · rw [List.getElem?_map, List.getElem?_range hk]
      by_cases ha : k < (allowed w l).length
      · rw [List.getElem?_append_left (by simpa using ha), List.getElem?_map, List.getElem?_range ha]
        simp [ha]
      · rw [List.getElem?_append_right (by simpa using Nat.le_of_not_lt ha)]
        simp only [Option.map_some, if_neg ha, List.length_map, List.length_range]
        rw [List.getElem?_replicate, if_pos (by omega)]
    · rw [List.getElem?_eq_none (by simpa using Nat.le_of_not_lt hk), List.getElem?_eq_none]
      simp only [List.length_append, List.length_map, List.length_range, List.length_replicate]
      omega
  rw [split, List.foldl_append, fold_none, List.foldl_map]
  rfl
/-- the first candidate is always there; whatever is best so far is one of the candidates -/
theorem pyBest_is (w : Nat) (l : List Piece) : ∀ i, 0 < i → ∃ k, k < i ∧ pyBest w l i = some (cand w l k)
  | 0, h => absurd h (Nat.lt_irrefl _)
  | i + 1, _ => by
    rw [pyBest_succ]
    cases i with
    | zero => exact ⟨0, Nat.zero_lt_one, rfl⟩
    | succ i =>
      obtain ⟨k, hk, e⟩ := pyBest_is w l (i + 1) (Nat.succ_pos _)
      rw [e]
      show ∃ k', _ ∧ (if (cand w l (i + 1)).1 ≤ (cand w l k).1 then some (cand w l (i + 1)) else some (cand w l k)) = _
      split
      · exact ⟨i + 1, Nat.lt_succ_self _, rfl⟩
      · exact ⟨k, Nat.lt_succ_of_lt hk, rfl⟩
theorem allowed_pos {w : Nat} {p : Piece} {r : List Piece} : 0 < (allowed w (p :: r)).length := by
  unfold allowed allowedGo
  rw [if_neg (fun z => nomatch z.1)]
  exact Nat.succ_pos _
/-- the best division begins with a line, and goes on with the best division of the rest -/
theorem best_step {w : Nat} {l : List Piece} (hl : ∀ q ∈ l, q.content ≠ []) (ne : l ≠ []) : ∃ k, k < l.length ∧ bestBreaking w l = cand w l k := by
  cases l with
  | nil => exact absurd rfl ne
  | cons p r =>
    obtain ⟨k, hk, e⟩ := pyBest_is w (p :: r) _ (allowed_pos (w := w) (p := p) (r := r))
    refine ⟨k, Nat.lt_of_lt_of_le hk (allowed_len w (p :: r) 0 true), ?_⟩
    rw [best_cons hl, e]
    rfl
theorem best_nil (w : Nat) : bestBreaking w [] = (0, []) := rfl
theorem best_fits (w : Nat) : ∀ (n : Nat) (l : List Piece), l.length ≤ n → (∀ q ∈ l, q.content ≠ []) → Fits (bestBreaking w l).2 l.length
  | _, [], _, _ => trivial
  | 0, p :: r, h, _ => absurd h (by simp)
  | n + 1, p :: r, h, hl => by
    obtain ⟨k, hk, e⟩ := best_step (w := w) hl (fun z => nomatch z)
    rw [e]
    refine ⟨Nat.succ_le_succ (Nat.zero_le _), hk, ?_⟩
    have hd : ((p :: r).drop (k + 1)).length = (p :: r).length - (k + 1) := List.length_drop
    rw [← hd]
    refine best_fits w n _ ?_ fun q hq => hl q (List.mem_of_mem_drop hq)
    rw [hd]
    simp only [List.length_cons] at h ⊢
    omega
end Pm

namespace Pm
open Kh455 (Piece Joint lineText takeLines lineCost Breaking better bestFrom bestAll bestBreaking)
/-- the two tables, known from the place i on -/
structure Known (w : Nat) (ps : List Piece) (i : Nat) (cs fs : List Nat) : Prop where
  cl : cs.length = ps.length + 1
  fl : fs.length = ps.length
  co : ∀ j, i ≤ j → j ≤ ps.length → cs[j]? = some (bestBreaking w (ps.drop j)).1
  fi : ∀ j, i ≤ j → j < ps.length → fs[j]? = some ((bestBreaking w (ps.drop j)).2.headD 0)
theorem Known.start (w : Nat) (ps : List Piece) : Known w ps ps.length (List.replicate (ps.length + 1) 0) (List.replicate ps.length 0) := by
  refine ⟨List.length_replicate, List.length_replicate, fun j h1 h2 => ?_, fun j h1 h2 => by omega⟩
  have e : j = ps.length := by omega
  subst e
  rw [List.drop_length, best_nil, List.getElem?_replicate, if_pos (by omega)]
theorem Known.set {w : Nat} {ps : List Piece} {st : Nat} {cs fs : List Nat} (x : Known w ps (st + 1) cs fs) (a b : Nat) : Known w ps (st + 1) (cs.set st a) (fs.set st b) := by
  refine ⟨by rw [List.length_set, x.cl], by rw [List.length_set, x.fl], fun j h1 h2 => ?_, fun j h1 h2 => ?_⟩
  · rw [List.getElem?_set_ne (by omega), x.co j h1 h2]
  · rw [List.getElem?_set_ne (by omega), x.fi j h1 h2]
/-- what the tables hold at the place st after k lines have been looked at -/
def Sofar (w : Nat) (l : List Piece) (st k : Nat) (cs fs : List Nat) : Prop := k = 0 ∨ ∃ b, pyBest w l k = some b ∧ cs[st]? = some b.1 ∧ fs[st]? = some (b.2.headD 0)
theorem Sofar.take {w : Nat} {l : List Piece} {st k : Nat} {cs fs : List Nat} (hc : st < cs.length) (hf : st < fs.length) (h : k = 0 ∨ ∃ b, pyBest w l k = some b ∧ (cand w l k).1 ≤ b.1) :
    Sofar w l st (k + 1) (cs.set st (cand w l k).1) (fs.set st (k + 1)) := by
  refine .inr ⟨cand w l k, ?_, ?_, ?_⟩
  · rw [pyBest_succ]
    rcases h with h | ⟨b, e, h⟩
    · subst h
      rfl
    · rw [e]
      show (if (cand w l k).1 ≤ b.1 then some (cand w l k) else some b) = _
      rw [if_pos h]
  · rw [List.getElem?_set_self hc]
  · rw [List.getElem?_set_self hf]
    rfl
theorem Sofar.leave {w : Nat} {l : List Piece} {st k : Nat} {cs fs : List Nat} {b : Breaking} (e : pyBest w l k = some b) (h : ¬ (cand w l k).1 ≤ b.1) (hc : cs[st]? = some b.1) (hf : fs[st]? = some (b.2.headD 0)) : Sofar w l st (k + 1) cs fs := by
  refine .inr ⟨b, ?_, hc, hf⟩
  rw [pyBest_succ, e]
  show (if (cand w l k).1 ≤ b.1 then some (cand w l k) else some b) = _
  rw [if_neg h]
theorem Known.done {w : Nat} {ps : List Piece} {st : Nat} {cs fs : List Nat} (hl : ∀ q ∈ ps, q.content ≠ []) (hst : st < ps.length) (x : Known w ps (st + 1) cs fs) (y : Sofar w (ps.drop st) st (allowed w (ps.drop st)).length cs fs) : Known w ps st cs fs := by
  have hd : ps.drop st = ps[st] :: ps.drop (st + 1) := List.drop_eq_getElem_cons hst
  have hb : ∃ b, bestBreaking w (ps.drop st) = b ∧ cs[st]? = some b.1 ∧ fs[st]? = some (b.2.headD 0) := by
    rcases y with y | ⟨b, e, h1, h2⟩
    · rw [hd] at y
      have := allowed_pos (w := w) (p := ps[st]) (r := ps.drop (st + 1))
      omega
    · refine ⟨b, ?_, h1, h2⟩
      rw [hd] at e ⊢
      rw [best_cons fun q hq => hl q (List.mem_of_mem_drop (i := st) (by rw [hd]; exact hq)), e]
      rfl
  obtain ⟨b, e, h1, h2⟩ := hb
  refine ⟨x.cl, x.fl, fun j g1 g2 => ?_, fun j g1 g2 => ?_⟩
  · by_cases h : j = st
    · subst h
      rw [e, h1]
    · exact x.co j (by omega) g2
  · by_cases h : j = st
    · subst h
      rw [e, h2]
    · exact x.fi j (by omega) g2
/-- the counts, one behind the other -/
theorem best_next {w : Nat} {ps : List Piece} (hl : ∀ q ∈ ps, q.content ≠ []) {at_ : Nat} (h : at_ < ps.length) :
    1 ≤ (bestBreaking w (ps.drop at_)).2.headD 0 ∧ at_ + (bestBreaking w (ps.drop at_)).2.headD 0 ≤ ps.length ∧
    (bestBreaking w (ps.drop at_)).2 = (bestBreaking w (ps.drop at_)).2.headD 0 :: (bestBreaking w (ps.drop (at_ + (bestBreaking w (ps.drop at_)).2.headD 0))).2 := by
  have ne : ps.drop at_ ≠ [] := fun z => by
    have := List.drop_eq_nil_iff.mp z
    omega
  obtain ⟨k, hk, e⟩ := best_step (w := w) (l := ps.drop at_) (fun q hq => hl q (List.mem_of_mem_drop hq)) ne
  rw [List.length_drop] at hk
  have e2 : (bestBreaking w (ps.drop at_)).2 = (k + 1) :: (bestBreaking w (ps.drop (at_ + (k + 1)))).2 := by
    rw [e]
    show _ :: (bestBreaking w ((ps.drop at_).drop (k + 1))).2 = _
    rw [List.drop_drop]
  have e3 : (bestBreaking w (ps.drop at_)).2.headD 0 = k + 1 := by
    rw [e2]
    rfl
  rw [e3]
  exact ⟨Nat.succ_le_succ (Nat.zero_le _), by omega, e2⟩
theorem lens_at (w : Nat) {ps : List Piece} (hl : ∀ q ∈ ps, q.content ≠ []) (st : Nat) {k x : Nat} (h : (allowed w (ps.drop st))[k]? = some x) : st + k < ps.length ∧ x = lens (ps.drop st) k ∧ x ≤ letters ps + ps.length := by
  have hk := (List.getElem?_eq_some_iff.mp h).1
  obtain ⟨h1, h2, _⟩ := allowed_run w (ps.drop st) [] (fun q hq => hl q (List.mem_of_mem_drop hq)) k hk
  have h2 : (allowed w (ps.drop st))[k]? = some (lens (ps.drop st) k) := h2
  rw [h] at h2
  have e : x = lens (ps.drop st) k := Option.some.inj h2
  rw [List.length_drop] at h1
  refine ⟨by omega, e, ?_⟩
  have g1 := line_len ((ps.drop st).take (k + 1))
  have g2 := letters_take_drop ps st (k + 1)
  have g3 : ((ps.drop st).take (k + 1)).length ≤ ps.length := by
    rw [List.length_take, List.length_drop]
    omega
  rw [e]
  show (lineText _).length ≤ _
  omega
end Pm

namespace Pm
open Kh455 (Piece Joint lineText takeLines lineCost Breaking better bestFrom bestAll bestBreaking breakLines)
theorem takes_len : ∀ (c : List Nat) (l : List Piece), (takeLines c l).length = c.length
  | [], _ => rfl
  | n :: r, l => by
    show (takeLines r (l.drop n)).length + 1 = _
    rw [takes_len r]
    rfl
/-- all lines together are no longer than the pieces and one sign more for each -/
theorem takes_sizes : ∀ (c : List Nat) (l : List Piece), sizes ((takeLines c l).map lineText) ≤ letters l + l.length
  | [], _ => Nat.zero_le _
  | n :: r, l => by
    have ih := takes_sizes r (l.drop n)
    have h := line_len (l.take n)
    have e : letters l = letters (l.take n) + letters (l.drop n) := by rw [← letters_cat, List.take_append_drop]
    have z : sizes ((takeLines (n :: r) l).map lineText) = (lineText (l.take n)).length + sizes ((takeLines r (l.drop n)).map lineText) := rfl
    rw [z, e]
    rw [List.length_drop] at ih
    rw [List.length_take] at h
    omega
/-- operations over a width, patterns and a text: what is due -/
def overPieces (w : Nat) (a b : List Nat) (f : List Piece → List Int) : List Int :=
  if 10 ≤ w ∧ w ≤ 80 then (match Kh450.decodeAll a with
    | none => [-24]
    | some t => match pats (Kh455.wordsOf t) with
      | none => [-21]
      | some ps => match Kh450.decodeAll b with
        | none => [-24]
        | some x => f (Kh455.pieces ps x))
  else [-22]
theorem overPieces_eq (w : Nat) (a b : List Nat) (c : List Piece → Kh455.Result) : Kh455Neutral.integers (Kh455.withPieces w a b c) = overPieces w a b fun l => Kh455Neutral.integers (c l) := by
  unfold Kh455.withPieces overPieces Kh455.isWidth
  by_cases h : 10 ≤ w ∧ w ≤ 80
  · rw [if_pos h]
    have e : (!(decide (10 ≤ w) && decide (w ≤ 80))) = false := by simp [h.1, h.2]
    rw [e]
    show Kh455Neutral.integers (Kh455.withPatterns a _) = _
    unfold Kh455.withPatterns Kh450.withText
    cases Kh450.decodeAll a with
    | none => rfl
    | some t =>
      show Kh455Neutral.integers (match Kh455.readPatterns t with | none => _ | some p => _) = _
      rw [readPatterns_eq]
      dsimp only
      cases pats (Kh455.wordsOf t) with
      | none => rfl
      | some ps =>
        show Kh455Neutral.integers (match Kh450.decodeAll b with | none => _ | some p => _) = _
        dsimp only
        cases Kh450.decodeAll b with
        | none => rfl
        | some x => rfl
  · rw [if_neg h]
    have e : (!(decide (10 ≤ w) && decide (w ≤ 80))) = true := by
      simp only [Bool.not_eq_true', Bool.and_eq_false_iff, decide_eq_false_iff_not]
      omega
    rw [e]
    rfl
/-- a text as the answer -/
def told (t : List Nat) : List Int := asInts ((Kh450.encodeAll t).length :: Kh450.encodeAll t)
/-- what break_text answers -/
theorem break_eq (w : Int) (a b : List Int) : PyKh455.break_text w a b = overPieces w.toNat (nats a) (nats b) fun l => told (Kh450.joinTexts [10] ((takeLines (bestBreaking w.toNat l).2 l).map lineText)) := by
  show Kh455Neutral.integers (Kh455.withPieces w.toNat (nats a) (nats b) _) = _
  rw [overPieces_eq]
  rfl
end Pm

namespace Pm
open Kh455 (Piece Joint lineText takeLines lineCost Breaking better bestFrom bestAll bestBreaking breakLines greedyCount greedyLoop greedy)
/-! ### the greedy division -/
theorem last_true {p : Nat → Bool} {a m : Nat} (ha : a ≤ m) (hp : p a = true) (hn : ∀ n, a < n → n ≤ m → p n = false) : ((List.range (m + 1)).filter p).getLast? = some a := by
  induction m with
  | zero =>
    have e : a = 0 := by omega
    subst e
    simp [List.range_succ, hp]
  | succ m ih =>
    rw [List.range_succ, List.filter_append]
    by_cases h : a = m + 1
    · subst h
      simp [hp]
    · have e := hn (m + 1) (by omega) (Nat.le_refl _)
      have e2 : [m + 1].filter p = [] := by simp [e]
      rw [e2, List.append_nil]
      exact ih (by omega) fun n h1 h2 => hn n h1 (by omega)
theorem greedyCount_eq {w : Nat} {p : Piece} {r : List Piece} (hl : ∀ q ∈ p :: r, q.content ≠ []) : greedyCount w (p :: r) = (allowed w (p :: r)).length := by
  have apos := allowed_pos (w := w) (p := p) (r := r)
  have alen : (allowed w (p :: r)).length ≤ (p :: r).length := allowed_len w (p :: r) 0 true
  have run := fun k hk => allowed_run w (p :: r) [] hl k hk
  have ends := fun k h1 h2 => allowed_ends w (p :: r) [] hl k h1 h2
  have run : ∀ k, k < (allowed w (p :: r)).length → k = 0 ∨ lens (p :: r) k ≤ w := fun k hk => by
    have z := (run k hk).2.2
    simp only [List.length_nil, Nat.zero_add, List.nil_append] at z
    exact z
  have ends : ∀ k, (allowed w (p :: r)).length ≤ k → k < (p :: r).length → w < lens (p :: r) k := fun k h1 h2 => (ends k h1 h2).1
  generalize (p :: r) = l at *
  unfold greedyCount
  have tooLong : ∀ n, (allowed w l).length < n → n ≤ l.length → decide ((lineText (l.take n)).length ≤ w) = false := fun n h1 h2 => by
    obtain ⟨k, rfl⟩ : ∃ k, n = k + 1 := ⟨n - 1, by omega⟩
    have := ends k (by omega) (by omega)
    exact decide_eq_false (by unfold lens at this; omega)
  by_cases h : lens l ((allowed w l).length - 1) ≤ w
  · have e : (allowed w l).length - 1 + 1 = (allowed w l).length := by omega
    have hp : decide ((lineText (l.take (allowed w l).length)).length ≤ w) = true := by
      unfold lens at h
      rw [e] at h
      exact decide_eq_true h
    rw [last_true (p := fun n => decide ((lineText (l.take n)).length ≤ w)) alen hp tooLong]
    show max 1 (allowed w l).length = _
    omega
  · have one : (allowed w l).length = 1 := by
      rcases run ((allowed w l).length - 1) (by omega) with z | z
      · omega
      · exact absurd z h
    rw [one] at h tooLong ⊢
    have hp : decide ((lineText (l.take 0)).length ≤ w) = true := decide_eq_true (Nat.zero_le _)
    rw [last_true (p := fun n => decide ((lineText (l.take n)).length ≤ w)) (a := 0) (Nat.zero_le _) hp fun n h1 h2 => ?_]
    · rfl
    · by_cases e : n = 1
      · rw [e]
        exact decide_eq_false (fun z => h z)
      · exact tooLong n (by omega) h2
theorem greedyLoop_step {w f : Nat} {l : List Piece} (hl : ∀ q ∈ l, q.content ≠ []) (ne : l ≠ []) (hf : l.length ≤ f) :
    1 ≤ (allowed w l).length ∧ (allowed w l).length ≤ l.length ∧ ∃ g, l.length - (allowed w l).length ≤ g ∧ greedyLoop w f l = (allowed w l).length :: greedyLoop w g (l.drop (allowed w l).length) := by
  cases l with
  | nil => exact absurd rfl ne
  | cons p r =>
    have apos := allowed_pos (w := w) (p := p) (r := r)
    have alen : (allowed w (p :: r)).length ≤ (p :: r).length := allowed_len w (p :: r) 0 true
    cases f with
    | zero => simp at hf
    | succ f =>
      refine ⟨apos, alen, f, ?_, ?_⟩
      · simp only [List.length_cons] at hf ⊢
        omega
      · show (if (p :: r).isEmpty then [] else greedyCount w (p :: r) :: greedyLoop w f ((p :: r).drop (greedyCount w (p :: r)))) = _
        rw [greedyCount_eq hl]
        rfl
theorem greedyLoop_nil (w f : Nat) : greedyLoop w f [] = [] := by
  cases f <;> rfl
theorem greedyLoop_fits (w : Nat) : ∀ (n f : Nat) (l : List Piece), l.length ≤ n → l.length ≤ f → (∀ q ∈ l, q.content ≠ []) → Fits (greedyLoop w f l) l.length
  | _, f, [], _, _, _ => by
    rw [greedyLoop_nil]
    trivial
  | 0, f, p :: r, h, _, _ => absurd h (by simp)
  | n + 1, f, p :: r, h, hf, hl => by
    obtain ⟨h1, h2, g, hg, e⟩ := greedyLoop_step (w := w) hl (fun z => nomatch z) hf
    rw [e]
    refine ⟨h1, h2, ?_⟩
    have hd : ((p :: r).drop (allowed w (p :: r)).length).length = (p :: r).length - (allowed w (p :: r)).length := List.length_drop
    rw [← hd]
    refine greedyLoop_fits w n g _ ?_ ?_ fun q hq => hl q (List.mem_of_mem_drop hq)
    · rw [hd]
      simp only [List.length_cons] at h h2 ⊢
      omega
    · rw [hd]
      exact hg
theorem greedy_fits (w : Nat) {l : List Piece} (hl : ∀ q ∈ l, q.content ≠ []) : Fits (greedy w l) l.length := greedyLoop_fits w _ _ l (Nat.le_refl _) (Nat.le_refl _) hl
/-- what greedy_text answers -/
theorem greedy_eq (w : Int) (a b : List Int) : PyKh455.greedy_text w a b = overPieces w.toNat (nats a) (nats b) fun l => told (Kh450.joinTexts [10] ((takeLines (greedy w.toNat l) l).map lineText)) := by
  show Kh455Neutral.integers (Kh455.withPieces w.toNat (nats a) (nats b) _) = _
  rw [overPieces_eq]
  rfl
/-! ### the cost of a division -/
theorem costOf_cons (w n : Nat) (r : List Nat) (l : List Piece) : Kh455.costOf w (n :: r) l = if n = 0 ∨ l.length < n then none else (match lineCost w (l.take n) (n == l.length), Kh455.costOf w r (l.drop n) with
      | some a, some b => some (a + b)
      | _, _ => none) := rfl
/-- a line of n pieces -/
theorem lineCost_any {w n : Nat} {l : List Piece} (h1 : 1 ≤ n) (h2 : n ≤ l.length) : lineCost w (l.take n) (n == l.length) = if w < (lineText (l.take n)).length ∧ 1 < n then none else some (lCost w (lineText (l.take n)).length (jointAt l (n - 1)) (decide (n = l.length))) := by
  obtain ⟨k, rfl⟩ : ∃ k, n = k + 1 := ⟨n - 1, by omega⟩
  have hk : k < l.length := by omega
  have hlast : (l.take (k + 1)).getLast?.map Piece.joint = some (jointAt l k) := by
    have e : l.take (k + 1) = l.take k ++ [l[k]] := by
      rw [List.take_add_one, List.getElem?_eq_getElem hk]
      rfl
    rw [e, List.getLast?_append]
    unfold jointAt
    rw [List.getElem?_eq_getElem hk]
    simp
  have hlen : (l.take (k + 1)).length = k + 1 := by
    rw [List.length_take]
    omega
  unfold lineCost
  rw [hlast, hlen]
  dsimp only
  have hb : (k + 1 == l.length) = decide (k + 1 = l.length) := by
    rw [Bool.eq_iff_iff, beq_iff_eq, decide_eq_true_eq]
  have hh : (if some (jointAt l k) = some Joint.hyphen then 50 else 0) = hyC (jointAt l k) := by
    unfold hyC
    by_cases h : jointAt l k = .hyphen
    · rw [if_pos h, if_pos (congrArg some h)]
    · rw [if_neg h, if_neg fun z => h (Option.some.inj z)]
  rw [hb, hh, Nat.add_sub_cancel]
  generalize (lineText (l.take (k + 1))).length = len
  unfold lCost
  by_cases hw : len ≤ w
  · rw [if_pos hw, if_neg (show ¬ (w < len ∧ 1 < k + 1) from fun z => absurd z.1 (Nat.not_lt.mpr hw)), if_neg (Nat.not_lt.mpr hw)]
  · rw [if_neg hw]
    by_cases h0 : k = 0
    · subst h0
      rw [if_pos rfl, if_neg (show ¬ (w < len ∧ 1 < 0 + 1) from fun z => absurd z.2 (Nat.lt_irrefl _)), if_pos (Nat.lt_of_not_le hw)]
    · rw [if_neg (show ¬ (k + 1 = 1) by omega), if_pos (show w < len ∧ 1 < k + 1 from ⟨by omega, by omega⟩)]
/-- the best division's cost is that of its lines -/
theorem best_step2 {w : Nat} {l : List Piece} (hl : ∀ q ∈ l, q.content ≠ []) (ne : l ≠ []) : ∃ k, k < (allowed w l).length ∧ k < l.length ∧ bestBreaking w l = cand w l k := by
  cases l with
  | nil => exact absurd rfl ne
  | cons p r =>
    obtain ⟨k, hk, e⟩ := pyBest_is w (p :: r) _ (allowed_pos (w := w) (p := p) (r := r))
    refine ⟨k, hk, Nat.lt_of_lt_of_le hk (allowed_len w (p :: r) 0 true), ?_⟩
    rw [best_cons hl, e]
    rfl
theorem costOf_best (w : Nat) : ∀ (n : Nat) (l : List Piece), l.length ≤ n → (∀ q ∈ l, q.content ≠ []) → Kh455.costOf w (bestBreaking w l).2 l = some (bestBreaking w l).1
  | _, [], _, _ => rfl
  | 0, p :: r, h, _ => absurd h (by simp)
  | n + 1, p :: r, h, hl => by
    obtain ⟨k, ha, hk, e⟩ := best_step2 (w := w) hl (fun z => nomatch z)
    have lc := lineCost_eq (w := w) hl hk
    rw [if_pos ha] at lc
    have ih := costOf_best w n ((p :: r).drop (k + 1)) (by rw [List.length_drop]; simp only [List.length_cons] at h ⊢; omega) fun q hq => hl q (List.mem_of_mem_drop hq)
    rw [e]
    unfold cand
    rw [costOf_cons, if_neg (by omega), lc, ih]
/-- what the loop of division_cost has done: the total so far, where it stands, which counts are left -/
def goesOn (w : Nat) (ps : List Piece) (counts : List Nat) (start total : Nat) : Option Nat := (Kh455.costOf w counts (ps.drop start)).map (total + ·)
theorem goes_start (w : Nat) (ps : List Piece) (counts : List Nat) : goesOn w ps counts 0 0 = Kh455.costOf w counts ps := by
  unfold goesOn
  rw [List.drop_zero]
  cases Kh455.costOf w counts ps with
  | none => rfl
  | some x => simp
theorem goes_bad (w : Nat) (ps : List Piece) (n : Nat) (r : List Nat) (start total : Nat) (hs : start ≤ ps.length) (h : n = 0 ∨ ps.length < start + n) : goesOn w ps (n :: r) start total = none := by
  unfold goesOn
  rw [costOf_cons, List.length_drop, if_pos (by omega)]
  rfl
theorem goes_long (w : Nat) (ps : List Piece) (n : Nat) (r : List Nat) (start total : Nat) (h1 : 1 ≤ n) (h2 : start + n ≤ ps.length) (h : w < (lineText ((ps.drop start).take n)).length ∧ 1 < n) : goesOn w ps (n :: r) start total = none := by
  unfold goesOn
  rw [costOf_cons, List.length_drop, if_neg (by omega)]
  have e := lineCost_any (w := w) (l := ps.drop start) h1 (by rw [List.length_drop]; omega)
  rw [if_pos h, List.length_drop] at e
  rw [e]
  rfl
theorem goes_more (w : Nat) (ps : List Piece) (n : Nat) (r : List Nat) (start total : Nat) (h1 : 1 ≤ n) (h2 : start + n ≤ ps.length) (h : ¬ (w < (lineText ((ps.drop start).take n)).length ∧ 1 < n)) :
    goesOn w ps (n :: r) start total = goesOn w ps r (start + n) (total + lCost w (lineText ((ps.drop start).take n)).length (jointAt ps (start + n - 1)) (decide (start + n = ps.length))) := by
  unfold goesOn
  rw [costOf_cons, List.length_drop, if_neg (by omega)]
  have e := lineCost_any (w := w) (l := ps.drop start) h1 (by rw [List.length_drop]; omega)
  rw [if_neg h, List.length_drop] at e
  rw [e, List.drop_drop]
  have j : jointAt (ps.drop start) (n - 1) = jointAt ps (start + n - 1) := by
    unfold jointAt
    rw [List.getElem?_drop, show start + (n - 1) = start + n - 1 by omega]
  have d : decide (n = ps.length - start) = decide (start + n = ps.length) := by
    rw [decide_eq_decide]
    omega
  rw [j, d]
  generalize lCost _ _ _ _ = c
  cases Kh455.costOf w r (ps.drop (start + n)) with
  | none => rfl
  | some x => simp [Nat.add_assoc]
theorem goes_end (w : Nat) (ps : List Piece) (start total : Nat) (hs : start ≤ ps.length) : goesOn w ps [] start total = if start < ps.length then none else some total := by
  unfold goesOn
  show (if (ps.drop start).isEmpty then some 0 else none : Option Nat).map (total + ·) = _
  by_cases h : start < ps.length
  · have ne : (ps.drop start).isEmpty = false := by
      rw [List.isEmpty_eq_false_iff]
      intro z
      have := List.drop_eq_nil_iff.mp z
      omega
    rw [if_pos h, ne]
    rfl
  · have e : (ps.drop start).isEmpty = true := by
      rw [List.isEmpty_iff]
      exact List.drop_eq_nil_iff.mpr (by omega)
    rw [if_neg h, e]
    rfl
theorem goes_fails {w : Nat} {ps : List Piece} {counts : List Nat} {start total : Nat} : goesOn w ps counts start total = none ↔ Kh455.costOf w counts (ps.drop start) = none := by
  unfold goesOn
  cases Kh455.costOf w counts (ps.drop start) <;> simp
/-- what cost and cost_of answer -/
theorem cost_eq (w : Int) (a b : List Int) : PyKh455.cost w a b = overPieces w.toNat (nats a) (nats b) fun l => [((bestBreaking w.toNat l).1 : Int), ((bestBreaking w.toNat l).2.length : Int)] := by
  show Kh455Neutral.integers (Kh455.withPieces w.toNat (nats a) (nats b) _) = _
  rw [overPieces_eq]
  rfl
theorem costOf_eq (w : Int) (a b c : List Int) : PyKh455.cost_of w a b c = overPieces w.toNat (nats a) (nats b) fun l => match Kh455.costOf w.toNat (nats c) l with
    | none => [-33]
    | some x => [(x : Int)] := by
  show Kh455Neutral.integers (Kh455.withPieces w.toNat (nats a) (nats b) _) = _
  rw [overPieces_eq]
  congr 1
  funext l
  show Kh455Neutral.integers (match Kh455.costOf w.toNat (nats c) l with | none => _ | some c => _) = _
  cases Kh455.costOf w.toNat (nats c) l <;> rfl
end Pm

namespace Pm
open Kh455 (Breaking better)
/-! ### the best division, of anything -/
/-- k + 1 members, and the best division of what follows -/
def cand_ (costs : Nat → List Nat) (best : Nat → Breaking) (st k : Nat) : Breaking := ((costs st).getD k 0 + (best (st + k + 1)).1, (k + 1) :: (best (st + k + 1)).2)
def pyB (costs : Nat → List Nat) (best : Nat → Breaking) (st i : Nat) : Option Breaking := (List.range i).foldl (fun b k => better b (some (cand_ costs best st k))) none
/-- best tells the best divisions of all ends; costs, what is allowed from each place on -/
structure IsBest (n : Nat) (costs : Nat → List Nat) (best : Nat → Breaking) : Prop where
  nil : best n = (0, [])
  step : ∀ st, st < n → best st = (pyB costs best st (costs st).length).getD (0, [])
  pos : ∀ st, st < n → 0 < (costs st).length
  le : ∀ st, st < n → st + (costs st).length ≤ n
section
variable {n : Nat} {costs : Nat → List Nat} {best : Nat → Breaking}
theorem pyB_succ (st i : Nat) : pyB costs best st (i + 1) = better (pyB costs best st i) (some (cand_ costs best st i)) := by
  unfold pyB
  rw [List.range_succ, List.foldl_append]
  rfl
theorem pyB_is (st : Nat) : ∀ i, 0 < i → ∃ k, k < i ∧ pyB costs best st i = some (cand_ costs best st k)
  | 0, h => absurd h (Nat.lt_irrefl _)
  | i + 1, _ => by
    rw [pyB_succ]
    cases i with
    | zero => exact ⟨0, Nat.zero_lt_one, rfl⟩
    | succ i =>
      obtain ⟨k, hk, e⟩ := pyB_is st (i + 1) (Nat.succ_pos _)
      rw [e]
      show ∃ k', _ ∧ (if (cand_ costs best st (i + 1)).1 ≤ (cand_ costs best st k).1 then some (cand_ costs best st (i + 1)) else some (cand_ costs best st k)) = _
      split
      · exact ⟨i + 1, Nat.lt_succ_self _, rfl⟩
      · exact ⟨k, Nat.lt_succ_of_lt hk, rfl⟩
/-- the two tables, known from the place i on -/
structure Kn (n : Nat) (best : Nat → Breaking) (i : Nat) (cs fs : List Nat) : Prop where
  cl : cs.length = n + 1
  fl : fs.length = n
  co : ∀ j, i ≤ j → j ≤ n → cs[j]? = some (best j).1
  fi : ∀ j, i ≤ j → j < n → fs[j]? = some ((best j).2.headD 0)
theorem Kn.start (B : IsBest n costs best) : Kn n best n (List.replicate (n + 1) 0) (List.replicate n 0) := by
  refine ⟨List.length_replicate, List.length_replicate, fun j h1 h2 => ?_, fun j h1 h2 => by omega⟩
  have e : j = n := by omega
  subst e
  rw [B.nil, List.getElem?_replicate, if_pos (by omega)]
theorem Kn.set {st : Nat} {cs fs : List Nat} (x : Kn n best (st + 1) cs fs) (a b : Nat) : Kn n best (st + 1) (cs.set st a) (fs.set st b) := by
  refine ⟨by rw [List.length_set, x.cl], by rw [List.length_set, x.fl], fun j h1 h2 => ?_, fun j h1 h2 => ?_⟩
  · rw [List.getElem?_set_ne (by omega), x.co j h1 h2]
  · rw [List.getElem?_set_ne (by omega), x.fi j h1 h2]
/-- what the tables hold at the place st after k costs have been looked at -/
def Sf (costs : Nat → List Nat) (best : Nat → Breaking) (st k : Nat) (cs fs : List Nat) : Prop := k = 0 ∨ ∃ b, pyB costs best st k = some b ∧ cs[st]? = some b.1 ∧ fs[st]? = some (b.2.headD 0)
theorem Sf.take {st k : Nat} {cs fs : List Nat} (hc : st < cs.length) (hf : st < fs.length) (h : k = 0 ∨ ∃ b, pyB costs best st k = some b ∧ (cand_ costs best st k).1 ≤ b.1) :
    Sf costs best st (k + 1) (cs.set st (cand_ costs best st k).1) (fs.set st (k + 1)) := by
  refine .inr ⟨cand_ costs best st k, ?_, ?_, ?_⟩
  · rw [pyB_succ]
    rcases h with h | ⟨b, e, h⟩
    · subst h
      rfl
    · rw [e]
      show (if (cand_ costs best st k).1 ≤ b.1 then some (cand_ costs best st k) else some b) = _
      rw [if_pos h]
  · rw [List.getElem?_set_self hc]
  · rw [List.getElem?_set_self hf]
    rfl
theorem Sf.leave {st k : Nat} {cs fs : List Nat} {b : Breaking} (e : pyB costs best st k = some b) (h : ¬ (cand_ costs best st k).1 ≤ b.1) (hc : cs[st]? = some b.1) (hf : fs[st]? = some (b.2.headD 0)) : Sf costs best st (k + 1) cs fs := by
  refine .inr ⟨b, ?_, hc, hf⟩
  rw [pyB_succ, e]
  show (if (cand_ costs best st k).1 ≤ b.1 then some (cand_ costs best st k) else some b) = _
  rw [if_neg h]
theorem Kn.done {st : Nat} {cs fs : List Nat} (B : IsBest n costs best) (hst : st < n) (x : Kn n best (st + 1) cs fs) (y : Sf costs best st (costs st).length cs fs) : Kn n best st cs fs := by
  have hb : ∃ b, best st = b ∧ cs[st]? = some b.1 ∧ fs[st]? = some (b.2.headD 0) := by
    rcases y with y | ⟨b, e, h1, h2⟩
    · have := B.pos st hst
      omega
    · exact ⟨b, by rw [B.step st hst, e]; rfl, h1, h2⟩
  obtain ⟨b, e, h1, h2⟩ := hb
  refine ⟨x.cl, x.fl, fun j g1 g2 => ?_, fun j g1 g2 => ?_⟩
  · by_cases h : j = st
    · subst h
      rw [e, h1]
    · exact x.co j (by omega) g2
  · by_cases h : j = st
    · subst h
      rw [e, h2]
    · exact x.fi j (by omega) g2
theorem IsBest.is (B : IsBest n costs best) {st : Nat} (h : st < n) : ∃ k, k < (costs st).length ∧ best st = cand_ costs best st k := by
  obtain ⟨k, hk, e⟩ := pyB_is (costs := costs) (best := best) st _ (B.pos st h)
  exact ⟨k, hk, by rw [B.step st h, e]; rfl⟩
/-- the counts, one behind the other -/
theorem IsBest.next (B : IsBest n costs best) {at_ : Nat} (h : at_ < n) :
    1 ≤ (best at_).2.headD 0 ∧ at_ + (best at_).2.headD 0 ≤ n ∧ (best at_).2 = (best at_).2.headD 0 :: (best (at_ + (best at_).2.headD 0)).2 := by
  obtain ⟨k, hk, e⟩ := B.is h
  have hl := B.le at_ h
  have e2 : (best at_).2 = (k + 1) :: (best (at_ + (k + 1))).2 := by
    rw [e]
    rfl
  have e3 : (best at_).2.headD 0 = k + 1 := by
    rw [e2]
    rfl
  rw [e3]
  exact ⟨Nat.succ_le_succ (Nat.zero_le _), by omega, e2⟩
end
/-! ### .. of pieces into lines -/
/-- the costs of the allowed lines, with one piece, with two and so on -/
def costList (w : Nat) (l : List Kh455.Piece) : List Nat := (List.range (allowed w l).length).map fun k => lCost w (lens l k) (jointAt l k) (decide (k + 1 = l.length))
theorem costList_len (w : Nat) (l : List Kh455.Piece) : (costList w l).length = (allowed w l).length := by
  unfold costList
  rw [List.length_map, List.length_range]
theorem costList_get {w : Nat} {l : List Kh455.Piece} {k : Nat} (h : k < (allowed w l).length) : (costList w l)[k]? = some (lCost w (lens l k) (jointAt l k) (decide (k + 1 = l.length))) := by
  unfold costList
  rw [List.getElem?_map, List.getElem?_range h]
  rfl
theorem pyB_lines {w : Nat} {ps : List Kh455.Piece} {st : Nat} : ∀ i, i ≤ (allowed w (ps.drop st)).length →
    pyB (fun j => costList w (ps.drop j)) (fun j => Kh455.bestBreaking w (ps.drop j)) st i = pyBest w (ps.drop st) i
  | 0, _ => rfl
  | i + 1, h => by
    rw [pyB_succ, pyBest_succ, pyB_lines i (by omega)]
    congr 2
    unfold cand_ cand
    simp only [List.getD_eq_getElem?_getD, costList_get (show i < (allowed w (ps.drop st)).length by omega), Option.getD_some, List.drop_drop]
    rfl
theorem lines_best (w : Nat) {ps : List Kh455.Piece} (hl : ∀ q ∈ ps, q.content ≠ []) : IsBest ps.length (fun j => costList w (ps.drop j)) (fun j => Kh455.bestBreaking w (ps.drop j)) := by
  refine ⟨by simp only [List.drop_length]; rfl, fun st h => ?_, fun st h => ?_, fun st h => ?_⟩
  · have hd : ps.drop st = ps[st] :: ps.drop (st + 1) := List.drop_eq_getElem_cons h
    rw [costList_len, pyB_lines _ (Nat.le_refl _)]
    rw [hd]
    exact best_cons fun q hq => hl q (List.mem_of_mem_drop (i := st) (by rw [hd]; exact hq))
  · have hd : ps.drop st = ps[st] :: ps.drop (st + 1) := List.drop_eq_getElem_cons h
    rw [costList_len, hd]
    exact allowed_pos
  · rw [costList_len]
    have : (allowed w (ps.drop st)).length ≤ (ps.drop st).length := allowed_len w (ps.drop st) 0 true
    rw [List.length_drop] at this
    omega
end Pm

/-! ### a lambda with parameters that a def gets as an argument -/
namespace L2
open PySem PySem.Spec PyProof.Rows LamX NdefX
/-- the function object at f, from the state (s, H) on: called, it keeps sp -/
structure Clo (P : Program) (w : World) (K : PySem.W.Frag) (mg : Str → Option Value) (base : Heap) (fs : List Addr) (k : Nat) (f : Addr) (s : Shared) (H : Hp) (sp : List V → Hp → VK → Prop) : Prop where
  fn : PySem.W.FnAt f s.heap
  un : H f = none
  nf : f ∉ fs
  run : ∀ (A : Around) (outer : List Env) (s' : Shared) (H' : Hp) (us : List Value) (vs : List V) (Q : VK), Un fs [] H H' s.heap s'.heap → ExtN H H' → Room k A → Env0 P w K mg base A outer s' H' → Vals vs us → sp vs H' Q →
    codeAny (model P w) A (.call (.ref f) ⟨us, []⟩) (CR CX0 outer P w H' s' Q E0) s'
/-- f(e, ..), f a name that holds such a function since the entry -/
def tClo (i : Nat) (f : Addr) (H0 : Hp) (sp : List V → Hp → VK → Prop) (t : TA) : TE := fun σ H Q => σ[i]? = some (some (.ref f)) ∧ t σ H fun vs H1 => ExtN H0 H1 ∧ sp vs H1 Q
section
variable {X : Cx} {k i : Nat} {f : Addr} {sp : List V → Hp → VK → Prop} {x : Str} {e : Expr} {es : List Expr} {t : TA} {p pos : Pos}
theorem pe_clo (C : Clo X.prog X.w X.K X.mg X.base X.fs k f X.s_0 X.H_0 sp) (hex : X.ex = []) (hr : Room k X.A) (hN : X.N[i]? = some x) (hv : Vis X.env.scope x) (ha : PA X (e :: es) t)
    (hd : (x == ("__debug__" : Str)) = false := by decide) (hcd : (x == ("__classdict__" : Str)) = false := by decide)
    (he : starEach (e :: es) X.env = (false, eval e X.env) :: starEach es X.env := by rfl) (hpl : (backTo pos (starEach es X.env)).any (·.1) = false := by rfl) :
    PE X (.Call (.Name x p) (e :: es) [] pos) (tClo i f X.H_0 sp t) := by
  refine ⟨fun pins s σ H Q I h => ?_⟩
  obtain ⟨hs, ht⟩ := h
  have fnat : ∀ {s' : Shared} {H' : Hp}, Inv X pins σ H' s' → PySem.W.FnAt f s'.heap := fun {s' H'} I' => by
    obtain ⟨oc, od, fd, sl, e⟩ := C.fn
    exact ⟨oc, od, fd, sl, I'.base.keep f _ e C.un C.nf (by rw [hex]; simp)⟩
  refine wpAny_Call_Name_kw (thn ((pe_var (pos := p) hN hv hd hcd).run pins s σ H (fun v H1 => v = .ref f ∧ H1 = H) I ⟨.ref f, hs, rfl, rfl⟩) fun u s1 ⟨v, H1, I1, r1, q1⟩ => ?_)
  obtain ⟨ev, eH⟩ := q1
  subst ev
  rw [eH] at I1
  obtain rfl : u = Value.ref f := r1
  refine PySem.W.callWith_F (first := []) (fnat I1) (thn (ha.run pos pins s1 σ H _ I1 ht) fun us s2 ⟨vs, H2, I2, r, h1, q⟩ => ⟨fnat I2, ?_⟩) he hpl
  show wpAny _ _ (call (.ref f) us) _ _ _
  have un := I2.base
  rw [hex] at un
  refine wpAny_call (codeAny_mono (C.run X.A X.stack s2 H2 us vs Q un h1 hr I2.env0 r q) fun r s' hq => ?_)
  cases r with
  | error e => exact (show False from hq).elim
  | ok fl =>
    cases fl with
    | ret u => exact I2.after hq
    | next => exact False.elim hq
    | brk => exact False.elim hq
    | cont => exact False.elim hq
end
theorem CellsAt_un {cl : List (Str × Addr)} {fr : List Str} {ws : List (Option V)} {fs : List Addr} {H H' : Hp} {h h' : Heap} (C : CellsAt cl fr ws h H) (u : Un fs [] H H' h h') : CellsAt cl fr ws h' H' := by
  have cellK : ∀ {c : Addr} {v : Option Value}, H c = none → h.IsCell c v → h'.IsCell c v := fun {c v} n ⟨o, ho, hd⟩ => by
    obtain ⟨sl, q⟩ := u.any ho n (by simp)
    exact ⟨_, q, hd⟩
  refine ⟨C.len, fun y c e => ?_, C.inj, fun i y e => ?_⟩
  · obtain ⟨n, v, z⟩ := C.all y c e
    refine ⟨?_, v, cellK n z⟩
    obtain ⟨o, ho, _⟩ := z
    exact u.free c o ho n (by simp)
  · obtain ⟨c, hc, hv⟩ := C.has i y e
    refine ⟨c, hc, fun v ev => ?_⟩
    obtain ⟨u', r, z⟩ := hv v ev
    exact ⟨u', r, cellK (C.all y c hc).1 z⟩
/-- the lambda's words, as a function's -/
abbrev lamF (qual : Str) (params : Arguments) (scope : Scope) (cl : List (Str × Addr)) (c : Addr) : NF := ⟨"<lambda>", qual, params, [], scope, cl, c⟩
section
variable {X : Cx} {pins : List (Addr × Obj)} {σ : L2.St} {H : Hp} {s : Shared}
/-- the lambda just made, from here on -/
theorem clo_lam {params : Arguments} {body : Expr} {scope : Scope} {N ps fr : List Str} {js : List Nat} {k : Nat} {f c' : Addr} {pm ctv : Value} {tb : TE} (I : Inv X pins σ H s) (S : NScope N ps fr scope)
    (cp : Caps X (cloFrom X.env.cells scope.names []) fr js)
    (hf : s.heap.get? f = some (PySem.W.kla_obj "<lambda>" (X.env.qual ++ "<lambda>") params body scope (cloFrom X.env.cells scope.names []) pm c' ctv)) (hfn : H f = none) (hfr : f ∉ frs X.stack) (hc : H c' = some (CodeO c' (X.env.qual ++ "<lambda>")))
    (hb : ∀ us : List Value, us.length = ps.length → bindArgs (PySem.W.kla_fn "<lambda>" (X.env.qual ++ "<lambda>") params body scope (cloFrom X.env.cells scope.names []) pm (.ref c') ctv) ⟨us, []⟩ = pure (ps.zip us))
    (hbody : ∀ (A : Around) (outer : List Env) (s : Shared) (H : Hp), Room k (A.deeper (envF (lamF (X.env.qual ++ "<lambda>") params scope (cloFrom X.env.cells scope.names []) c') f s.heap.objs.size)) →
      PE (ncx CX0 X.prog X.w X.K X.mg X.base N (lamF (X.env.qual ++ "<lambda>") params scope (cloFrom X.env.cells scope.names []) c') f A outer s H E0).nox body tb) :
    Clo X.prog X.w X.K X.mg X.base (frs X.stack) (k + 1) f s H (fun vs H' Q => vs.length = ps.length ∧ tb (startF N vs (js.map (slotAt σ))) H' Q) := by
  refine ⟨⟨_, _, _, _, hf⟩, hfn, hfr, fun A outer s2 H2 us vs Q un ex hr e0 r hq => ?_⟩
  obtain ⟨hl, hq⟩ := hq
  have of2 := un.keep f _ hf hfn hfr (by simp)
  have co2 := ex c' _ hc codeO_ne
  have lim : s2.heap.NoLimit := e0.mod.nolimit.keeps fun b o e => (e0.bs b o e).1
  refine PySem.W.kla_callFunE hr.depth of2 rfl S.co S.gen rfl (codeO_at e0.hok co2) ?_
  rw [hb us (by rw [← r.length]; exact hl)]
  refine wpAny_pure (wpAny_newFunctionEnv S.nocell (fun ⟨n, _⟩ hy => S.par n (List.of_mem_zip hy).1) (fun h₁ hns hsb => ⟨lim.fresh _ hsb, ?_⟩) S.kind)
  show codeAny _ _ (.expr body (envF (lamF (X.env.qual ++ "<lambda>") params scope (cloFrom X.env.cells scope.names []) c') f s2.heap.objs.size)) _ _
  have kp : ∀ b o, s2.heap.get? b = some o → h₁.get? b = some o := fun b o e => hsb.extBut b o (Nat.ne_of_lt (Heap.lt_size e)) (Heap.get?_push_of_some _ e)
  have C := CellsAt_un (cells_of I cp) un
  have J : Inv (ncx CX0 X.prog X.w X.K X.mg X.base N (lamF (X.env.qual ++ "<lambda>") params scope (cloFrom X.env.cells scope.names []) c') f A outer s2 H2 E0) [] (startF N vs (js.map (slotAt σ))) H2 { s2 with heap := h₁, toks := s2.toks + (ps.zip us).length } :=
    inv_startN S hr.hd e0 hl r C hns kp
  refine PySem.W.kla_codeExpr (wpAny_mono (((hbody A outer s2 H2 (hr.deeper _)).nox).run [] _ _ H2 Q J hq) (fun v s' hq => ?_) fun e s' hq => hq)
  obtain ⟨w', H', J', rv, q⟩ := hq
  exact ⟨w', H', J'.os, J'.bare, J'.base, J'.hok, rv, q⟩
end
/-- what a def promises that gets, behind one value, a function -/
def GetsFn (P : Program) (w : World) (K : PySem.W.Frag) (mg : Str → Option Value) (base : Heap) (k kc : Nat) (g : Addr) (spd : (List V → Hp → VK → Prop) → V → Hp → VK → Prop) : Prop :=
  ∀ (A : Around) (outer : List Env) (s : Shared) (H : Hp) (u : Value) (v : V) (f : Addr) (call : List V → Hp → VK → Prop) (Q : VK), Room k A → Env0 P w K mg base A outer s H → RelV v u → Clo P w K mg base (frs outer) kc f s H call → spd call v H Q →
    codeAny (model P w) A (.call (.ref g) ⟨[u, .ref f], []⟩) (CR CX0 outer P w H s Q E0) s
/-- g(e, lambda ..: body) -/
def tLamArg (T : List (Addr × Str)) (np : Nat) (js : List Nat) (N : List Str) (spd : (List V → Hp → VK → Prop) → V → Hp → VK → Prop) (te tb : TE) : TE := fun σ H Q => te σ H fun v H1 => Tabs T H1 ∧
  ∀ H2, ExtN H1 H2 → Tabs T H2 → spd (fun vs H' Q' => vs.length = np ∧ tb (startF N vs (js.map (slotAt σ))) H' Q') v H2 Q
section
variable {X : Cx}
/-- g(e, lambda ..: body): g keeps its promise of a function that it gets -/
theorem pe_lamarg {T : List (Addr × Str)} {spd : (List V → Hp → VK → Prop) → V → Hp → VK → Prop} {x : Str} {g c P : Addr} {k kc : Nat} {params : Arguments} {body e : Expr} {scope : Scope} {N ps fr : List Str} {js : List Nat} {te tb : TE} {p lpos pos : Pos}
    (hg : Gl X x) (hm : X.mg x = some (.ref g)) (hk : PySem.W.keepIn X.K (.ref g) = true) (G : GetsFn X.prog X.w X.K X.mg X.base k (kc + 1) g spd) (hr : Room k X.A)
    (TB : TabB X.base X.mg c P) (hcode : X.env.code = .ref c) (hmT : (P, X.env.qual ++ "<lambda>") ∈ T) (hu : ∀ p ∈ T, p.1 = P → p.2 = X.env.qual ++ "<lambda>") (he : PE X e te)
    (S : NScope N ps fr scope) (hnd : ndefB X.env.scope scope fr = true) (hjs : js.map (fun j => X.N[j]?) = fr.map some) (hdef : defaultsOf params X.env = ([], []))
    (hbind : ∀ (q : Str) (cl : List (Str × Addr)) (pm cv ctv : Value) (us : List Value), us.length = ps.length → bindArgs (PySem.W.kla_fn "<lambda>" q params body scope cl pm cv ctv) ⟨us, []⟩ = pure (ps.zip us))
    (hbody : ∀ (A : Around) (outer : List Env) (s : Shared) (H : Hp) (f c' : Addr), Room kc (A.deeper (envF (lamF (X.env.qual ++ "<lambda>") params scope (cloFrom X.env.cells scope.names []) c') f s.heap.objs.size)) →
      PE (ncx CX0 X.prog X.w X.K X.mg X.base N (lamF (X.env.qual ++ "<lambda>") params scope (cloFrom X.env.cells scope.names []) c') f A outer s H E0).nox body tb)
    (hdb : (x == ("__debug__" : Str)) = false := by decide)
    (hst : starEach [e, .Lambda params body scope lpos] X.env = (false, eval e X.env) :: starEach [.Lambda params body scope lpos] X.env := by rfl) :
    PE X (.Call (.Name x p) [e, .Lambda params body scope lpos] [] pos) (tLamArg T ps.length js N spd te tb) := by
  refine ⟨fun pins s σ H Q I h => ?_⟩
  have hfree := ndef_free hnd
  have hfr := ndef_fr hnd
  refine wpAny_Call_Name_kw (ld_glob I hg hm ?_ hdb)
  refine PySem.W.callWith_K (h₀ := X.base) I.ok.mod.kin hk ?_ hst (by rfl)
  rw [hst]
  show wpAny _ _ (spliced ((false, eval e X.env) :: (false, eval (.Lambda params body scope lpos) X.env) :: backTo pos (starEach [] X.env))) _ _ s
  refine Calls.spliced_cons (thn (he.run pins s σ H _ I h) fun u s1 ⟨v, H1, I1, r1, hT, q1⟩ => ?_)
  have hcells : ∀ y ∈ scope.names, y.2 = .free → ∃ c, X.env.cells.lookup y.1 = some c := fun y hy e => (hfree y hy e).elim (fun z => I1.ok.has _ (.inl z)) fun z => I1.ok.has _ (.inr z)
  refine Calls.spliced_cons (lam_make2 I1 TB hcode hmT hu hT hdef hcells fun f c' pm' ctv H2 s2 I2 eN T2 hf hfn hfr' hco => ?_)
  refine Calls.spliced_nil ⟨I2.kIn, ?_⟩
  have C := clo_lam (tb := tb) (k := kc) I2 S (Caps.made I2.ok hfree hfr hjs) hf hfn hfr' hco (fun us hl => hbind _ _ _ _ _ us hl) (fun A outer s H hr => hbody A outer s H f c' hr)
  have rc := G X.A X.stack s2 H2 u v f _ Q hr I2.env0 r1 C (q1 H2 eN T2)
  refine wpAny_call (codeAny_mono rc fun r s' hq => ?_)
  cases r with
  | error e => exact (show False from hq).elim
  | ok fl =>
    cases fl with
    | ret u => exact I2.after hq
    | next => exact False.elim hq
    | brk => exact False.elim hq
    | cont => exact False.elim hq
end
/-- a def of the text, its promise told of the very state -/
theorem _root_.L2.Fun.getsFn {P : Program} {w : World} {K : PySem.W.Frag} {mg : Str → Option Value} {base : Heap} {x qual : Str} {st : Stmt} {f : Addr} {fd : FuncData} {N ps : List Str} {k kc : Nat} {spd : (List V → Hp → VK → Prop) → V → Hp → VK → Prop} (F : Fun K x qual st f fd)
    (S : FnScope N ps (defScope st)) (h2 : ps.length = 2) (hb : Binds K fd ps [])
    (hbody : ∀ (cdv : Value) (A : Around) (outer : List Env) (s : Shared) (H : Hp) (v : V) (g : Addr) (call : List V → Hp → VK → Prop) (Q : VK), Room k (A.deeper (envOfC qual (defScope st) s.heap.objs.size f cdv)) → Clo P w K mg base (frs outer) kc g s H call → spd call v H Q →
      ∃ t, PSs (cxOf CX0 P w K mg base N qual (defScope st) f cdv A outer s H E0).nox (defBody st) t ∧ t { nx := fun _ H' => Q .non H', rt := Q } (L2.start N [v, .ref g]) H) : GetsFn P w K mg base (k + 1) kc f spd := by
  intro A outer s H u v g call Q hr e0 r C hq
  obtain ⟨oc, od, kV, doc, pm, an, cdv, ct, osl, rfl, lk, hcd⟩ := F.ex
  have KX : K.In s.heap := e0.mod.kin.keeps fun b o e => (e0.bs b o e).1
  have hbb := hb s [u, .ref g] KX (by rw [h2]; rfl)
  rw [List.append_nil] at hbb
  refine run_ofS (CX := CX0) lk hcd S hr e0 hbb (vs := [v, .ref g]) (.cons r (.cons rfl .nil)) (by rw [h2]; rfl) fun hr' => ?_
  obtain ⟨t, ht, q⟩ := hbody cdv A outer s H v g call Q hr' C hq
  exact ⟨t, ht.nox, q⟩
end L2

namespace Pl
open PySem PySem.Spec PyProof.Rows L2
/-! ### the text -/
def topS (i : Nat) : Stmt := PySem.Challenge.pw_plainlayout_s03_cost.main.body.getD i (.Pass ⟨0, 0, 0, 0⟩)
abbrev sIsChar : Stmt := topS 16
abbrev sWhite : Stmt := topS 17
abbrev sDigit : Stmt := topS 18
abbrev sCap : Stmt := topS 19
abbrev sSmall : Stmt := topS 20
abbrev sLetter : Stmt := topS 21
abbrev sLower : Stmt := topS 22
abbrev sWords : Stmt := topS 23
abbrev sDivn : Stmt := topS 25
abbrev sFill : Stmt := topS 26
abbrev sRefI : Stmt := inClass (topS 28) 0
abbrev sNpI : Stmt := inClass (topS 29) 0
abbrev sOorI : Stmt := inClass (topS 30) 0
abbrev sNuI : Stmt := inClass (topS 31) 0
abbrev sNfI : Stmt := inClass (topS 32) 0
abbrev sPatI : Stmt := inClass (topS 35) 0
abbrev sPats : Stmt := topS 36
abbrev sPat : Stmt := topS 37
abbrev sPos : Stmt := topS 38
abbrev sLev : Stmt := topS 39
abbrev sPieceI : Stmt := inClass (topS 46) 0
abbrev sPieces : Stmt := topS 47
abbrev sPcWord : Stmt := topS 48
abbrev sParts : Stmt := topS 49
abbrev sPcPart : Stmt := topS 50
abbrev sLine : Stmt := topS 51
abbrev sAllowed : Stmt := topS 52
abbrev sLineCost : Stmt := topS 53
abbrev sAllCosts : Stmt := topS 54
abbrev sBest : Stmt := topS 55
abbrev sDiv : Stmt := topS 56
abbrev sRead : Stmt := topS 60
abbrev sSize : Stmt := topS 61
abbrev sSeq : Stmt := topS 62
abbrev sCost : Stmt := topS 66
abbrev sChecked : Stmt := topS 67
abbrev sCheck : Stmt := topS 68
abbrev nmExcess : Str := "EXCESS_COST"
abbrev nmAllCosts : Str := "allowed_costs"
end Pl

namespace Pl
open PySem PySem.Spec PyProof.Rows L2
/-! ### words -/
theorem if_true_of {c : Bool} {A B : Prop} (hc : c = true) (h : A) : if c = true then A else B := by
  rw [if_pos hc]
  exact h
theorem if_false_of {c : Bool} {A B : Prop} (hc : c = false) (h : B) : if c = true then A else B := by
  rw [hc, if_neg Bool.false_ne_true]
  exact h
/-- a list of natural numbers, as values -/
def vn (l : List Nat) : List V := l.map fun n : Nat => V.int n
theorem vn_len (l : List Nat) : (vn l).length = l.length := List.length_map _
theorem vn_get {l : List Nat} {i : Nat} {n : Nat} (h : l[i]? = some n) : (vn l)[i]? = some (.int n) := by
  unfold vn
  rw [List.getElem?_map, h]
  rfl
theorem vn_of {l : List Nat} {i : Nat} {x : V} (h : (vn l)[i]? = some x) : ∃ n, l[i]? = some n ∧ x = .int n := by
  unfold vn at h
  rw [List.getElem?_map] at h
  cases e : l[i]? with
  | none =>
    rw [e] at h
    cases h
  | some n =>
    rw [e] at h
    exact ⟨n, rfl, (Option.some.inj h).symm⟩
theorem vn_snoc (l : List Nat) (n : Nat) : vn l ++ [.int n] = vn (l ++ [n]) := by
  unfold vn
  rw [List.map_append]
  rfl
theorem take_more {α : Type} : ∀ {l : List α} {i : Nat} {x : α}, l[i]? = some x → l.take (i + 1) = l.take i ++ [x]
  | [], i, x, h => by simp at h
  | a :: l, 0, x, h => by
    have e : a = x := Option.some.inj h
    subst e
    rfl
  | a :: l, i + 1, x, h => by
    have ih := take_more (l := l) (i := i) (x := x) h
    show a :: l.take (i + 1) = a :: l.take i ++ [x]
    rw [ih]
    rfl
theorem _root_.L2.Same.new {H H' : Hp} {p : Addr} {o : HO} (s : Same H H') (n : H' p = none) : Same H (upd H' p o) := fun b u e => by
  rw [upd_ne (ne_of_none (s b u e) n)]
  exact s b u e
/-- what was laid since may change -/
theorem _root_.L2.Same.own {H H' : Hp} {p : Addr} {o : HO} (s : Same H H') (n : H p = none) : Same H (upd H' p o) := fun b u e => by
  rw [upd_ne (ne_of_none e n)]
  exact s b u e
/-- a def of the program by its name, with its promise -/
def Def (P : Program) (w : World) (K : PySem.W.Frag) (mg : Str → Option Value) (base : Heap) (CX : CXT) (k : Nat) (x : Str) (ps : List Str) (sp : Sp) : Prop :=
  ∃ f fd, mg x = some (.ref f) ∧ PySem.W.keepIn K (.ref f) = true ∧ Binds K fd ps [] ∧ FnOk P w K mg base CX k f fd ps sp
abbrev IntG (mg : Str → Option Value) (x : Str) (n : Int) : Prop := ∃ t, mg x = some (.int n t)
section
variable {X : Cx} {e : Expr} {es : List Expr} {t : TA} {p pos : Pos} {CX : CXT} {k : Nat} {x : Str} {ps : List Str} {sp : Sp} {n : Int}
theorem pe_gi (h : IntG X.mg x n) (hg : Gl X x := by rfl) (hd : (x == ("__debug__" : Str)) = false := by decide) : PE X (.Name x p) (tC (.int n)) := by
  obtain ⟨t, h⟩ := h
  exact pe_glob hg h ⟨t, rfl⟩ hd
theorem pass0S (σ : L2.St) : PassesAt CX0 X σ E0 := fun _ _ _ _ _ _ h => h.elim
/-- a call of a def that raises nothing -/
theorem pe_d (D : Def X.prog X.w X.K X.mg X.base CX0 k x ps sp) (hr : Room k X.A) (ha : PA X (e :: es) t) (hg : Gl X x := by rfl) (hdb : (x == ("__debug__" : Str)) = false := by decide)
    (he : starEach (e :: es) X.env = (false, eval e X.env) :: starEach es X.env := by rfl) (hpl : (backTo pos (starEach es X.env)).any (·.1) = false := by rfl) : PE X (.Call (.Name x p) (e :: es) [] pos) (tCallS sp (fun _ => E0) t) := by
  obtain ⟨f, fd, hm, hk, hb, F⟩ := D
  exact pe_callS F hr hg hm hk hb pass0S ha hdb he hpl
/-- of one that may raise -/
theorem pe_dX {W : WX} (D : Def X.prog X.w X.K X.mg X.base (L2.CX X.prog X.w) k x ps sp) (hr : Room k X.A) (tk : Takes X W) (ha : PA X (e :: es) t) (hg : Gl X x := by rfl) (hdb : (x == ("__debug__" : Str)) = false := by decide)
    (he : starEach (e :: es) X.env = (false, eval e X.env) :: starEach es X.env := by rfl) (hpl : (backTo pos (starEach es X.env)).any (·.1) = false := by rfl) : PE X (.Call (.Name x p) (e :: es) [] pos) (tCallS sp (WE W) t) := by
  obtain ⟨f, fd, hm, hk, hb, F⟩ := D
  exact pe_callS F hr hg hm hk hb (fun σ => passAt tk σ) ha hdb he hpl
end
theorem Def.mk {P : Program} {w : World} {K : PySem.W.Frag} {mg : Str → Option Value} {base : Heap} {CX : CXT} {j k : Nat} {x qual : Str} {st : Stmt} {f : Addr} {fd : FuncData} {ps : List Str} {sp : Sp} (hm : mg x = some (.ref f)) (F : Fun K x qual st f fd)
    (hb : Binds K fd ps []) (G : FnOk P w K mg base CX j f fd ps sp) (h : j ≤ k) : Def P w K mg base CX k x ps sp := ⟨f, fd, hm, F.kp, hb, G.mono h⟩

/-! ### characters -/
structure TWh (mg : Str → Option Value) : Prop where
  TAB : IntG mg "TAB" 9
  LF : IntG mg "LINE_FEED" 10
  CR : IntG mg "CARRIAGE_RETURN" 13
  BLANK : IntG mg "BLANK" 32
structure TChr (mg : Str → Option Value) : Prop extends TWh mg where
  D0 : IntG mg "DIGIT_0" 48
  D9 : IntG mg "DIGIT_9" 57
  CA : IntG mg "CAPITAL_A" 65
  CZ : IntG mg "CAPITAL_Z" 90
  SA : IntG mg "SMALL_A" 97
  SZ : IntG mg "SMALL_Z" 122
/-- a test of a character -/
def spFlag (f : Nat → Bool) : Sp := fun vs H Q _ => ∃ c : Nat, vs = [.int c] ∧ ∀ H', Same H H' → Q (.bl (f c)) H'
def spLower : Sp := fun vs H Q _ => ∃ c : Nat, vs = [.int c] ∧ Q (.int (Kh450.lowerCase c)) H
section
variable {P : Program} {w : World} {K : PySem.W.Frag} {mg : Str → Option Value} {base : Heap} {f : Addr} {fd : FuncData}
theorem scWhite : FnScope ["code"] ["code"] (defScope sWhite) := ⟨rfl, rfl, rfl, by decide +kernel, rfl, by decide +kernel, by decide +kernel⟩
theorem white_in (c : Nat) : inV (.int c) [.int 32, .int 9, .int 10, .int 13] = Kh450.isWhite c := by
  show ((32 : Int) == (c : Int) || ((9 : Int) == (c : Int) || ((10 : Int) == (c : Int) || ((13 : Int) == (c : Int) || false)))) = (c == 32 || c == 9 || c == 10 || c == 13)
  rw [Bool.eq_iff_iff]
  simp only [Bool.or_eq_true, beq_iff_eq, Bool.false_eq_true, or_false]
  omega
theorem ok_white (F : Fun K "is_white_space" "is_white_space" sWhite f fd) (T : TWh mg) : FnOk P w K mg base CX0 1 f fd ["code"] (spFlag Kh450.isWhite) := by
  refine F.ok scWhite (fun vs H Q E h => ?_) (fun cdv A outer s H vs Q E hr h => ?_)
  · obtain ⟨c, rfl, _⟩ := h
    rfl
  · refine ⟨_, pss_one (ps_ret (pe_cmpR op_in_seq (pv 0) (pe_tup (pa_cons (pe_gi T.BLANK) (pa_cons (pe_gi T.TAB) (pa_cons (pe_gi T.LF) (pa_cons (pe_gi T.CR) pa_nil))))) (by rfl))), ?_⟩
    obtain ⟨c, rfl, k⟩ := h
    refine ⟨_, rfl, (by show 4 ≤ sizeLine; decide), fun p np => ?_⟩
    refine ⟨p, _, rfl, .inr (.inl (Rd.of upd_same)), rfl, rfl, ?_⟩
    show Q (.bl (inV (.int c) [.int 32, .int 9, .int 10, .int 13])) _
    rw [white_in]
    exact k _ ((Same.refl H).new np)
/-- lo <= code <= hi -/
theorem range_test {A B : Str} {lo hi : Int} {g : Nat → Bool} {x : Str} {st : Stmt} (hg : ∀ c : Nat, g c = (decide (lo ≤ c) && decide ((c : Int) ≤ hi))) (H : Hp) (Q : VK) (c : Nat) (k : ∀ H', Same H H' → Q (.bl (g c)) H') :
    tChain (rI0 fun i j => .bl (decide (i ≤ j))) (rI0 fun i j => .bl (decide (i ≤ j))) (tC (.int lo)) (tVar 0) (tC (.int hi)) [some (.int c)] H Q := by
  refine ⟨_, rfl, _, _, rfl, rfl, _, rfl, ?_⟩
  have e := hg c
  by_cases h : lo ≤ (c : Int)
  · refine if_true_of (decide_eq_true h) ⟨_, _, rfl, rfl, ?_⟩
    rw [decide_eq_true h, Bool.true_and] at e
    show Q (.bl (decide ((c : Int) ≤ hi))) H
    rw [← e]
    exact k H (Same.refl H)
  · refine if_false_of (decide_eq_false h) ?_
    rw [decide_eq_false h, Bool.false_and] at e
    rw [← e]
    exact k H (Same.refl H)
theorem scIsChar : FnScope ["code"] ["code"] (defScope sIsChar) := ⟨rfl, rfl, rfl, by decide +kernel, rfl, by decide +kernel, by decide +kernel⟩
theorem ok_isChar (F : Fun K "is_character" "is_character" sIsChar f fd) (hG : IntG mg "GREATEST_CHARACTER" 1114111) (hF : IntG mg "FIRST_SURROGATE" 55296) (hL : IntG mg "LAST_SURROGATE" 57343) : FnOk P w K mg base CX0 1 f fd ["code"] (spFlag Kh450.isScalar) := by
  refine F.ok scIsChar (fun vs H Q E h => ?_) (fun cdv A outer s H vs Q E hr h => ?_)
  · obtain ⟨c, rfl, _⟩ := h
    rfl
  · refine ⟨_, pss_one (ps_ret (pe_and (pe_cmpR op_le (pv 0) (pe_gi hG) (nomark _)) (pe_one (pe_not (pe_chain op_le op_le (pe_gi hF) (pv 0) (pe_gi hL)))))), ?_⟩
    obtain ⟨c, rfl, k⟩ := h
    refine ⟨_, rfl, _, _, rfl, rfl, _, rfl, ?_⟩
    by_cases h1 : c ≤ 1114111
    · refine if_true_of (decide_eq_true (by omega)) ⟨_, rfl, _, _, rfl, rfl, _, rfl, ?_⟩
      by_cases h2 : 55296 ≤ c
      · refine if_true_of (decide_eq_true (by omega)) ⟨_, _, rfl, rfl, _, rfl, ?_⟩
        have e : (!decide ((c : Int) ≤ 57343)) = Kh450.isScalar c := by
          unfold Kh450.isScalar
          by_cases h3 : c ≤ 57343
          · rw [decide_eq_true (by omega), decide_eq_true (by omega), decide_eq_true (by omega), decide_eq_true (by omega)]
            rfl
          · rw [decide_eq_false (by omega), decide_eq_true (by omega), decide_eq_true (by omega), decide_eq_false (by omega)]
            rfl
        dsimp only
        rw [e]
        exact k _ (Same.refl H)
      · refine if_false_of (decide_eq_false (by omega)) ⟨_, rfl, ?_⟩
        have e : true = Kh450.isScalar c := by
          unfold Kh450.isScalar
          rw [decide_eq_true (by omega), decide_eq_false (by omega)]
          rfl
        show Q (.bl true) H
        rw [e]
        exact k _ (Same.refl H)
    · refine if_false_of (decide_eq_false (by omega)) ?_
      have e : false = Kh450.isScalar c := by
        unfold Kh450.isScalar
        rw [decide_eq_false (by omega)]
        rfl
      show Q (.bl false) H
      rw [e]
      exact k _ (Same.refl H)
theorem scDigit : FnScope ["code"] ["code"] (defScope sDigit) := ⟨rfl, rfl, rfl, by decide +kernel, rfl, by decide +kernel, by decide +kernel⟩
theorem ok_digit (F : Fun K "is_digit" "is_digit" sDigit f fd) (T : TChr mg) : FnOk P w K mg base CX0 1 f fd ["code"] (spFlag Kh450.isDigit) := by
  refine F.ok scDigit (fun vs H Q E h => ?_) (fun cdv A outer s H vs Q E hr h => ?_)
  · obtain ⟨c, rfl, _⟩ := h
    rfl
  · refine ⟨_, pss_one (ps_ret (pe_chain op_le op_le (pe_gi T.D0) (pv 0) (pe_gi T.D9))), ?_⟩
    obtain ⟨c, rfl, k⟩ := h
    exact range_test (A := "") (B := "") (x := "") (st := sDigit) (fun c => by unfold Kh450.isDigit; congr 1 <;> simp <;> omega) H Q c k
theorem scCap : FnScope ["code"] ["code"] (defScope sCap) := ⟨rfl, rfl, rfl, by decide +kernel, rfl, by decide +kernel, by decide +kernel⟩
theorem ok_cap (F : Fun K "is_capital_letter" "is_capital_letter" sCap f fd) (T : TChr mg) : FnOk P w K mg base CX0 1 f fd ["code"] (spFlag Kh450.isUpper) := by
  refine F.ok scCap (fun vs H Q E h => ?_) (fun cdv A outer s H vs Q E hr h => ?_)
  · obtain ⟨c, rfl, _⟩ := h
    rfl
  · refine ⟨_, pss_one (ps_ret (pe_chain op_le op_le (pe_gi T.CA) (pv 0) (pe_gi T.CZ))), ?_⟩
    obtain ⟨c, rfl, k⟩ := h
    exact range_test (A := "") (B := "") (x := "") (st := sDigit) (fun c => by unfold Kh450.isUpper; congr 1 <;> simp <;> omega) H Q c k
theorem scSmall : FnScope ["code"] ["code"] (defScope sSmall) := ⟨rfl, rfl, rfl, by decide +kernel, rfl, by decide +kernel, by decide +kernel⟩
theorem ok_small (F : Fun K "is_small_letter" "is_small_letter" sSmall f fd) (T : TChr mg) : FnOk P w K mg base CX0 1 f fd ["code"] (spFlag Kh450.isLower) := by
  refine F.ok scSmall (fun vs H Q E h => ?_) (fun cdv A outer s H vs Q E hr h => ?_)
  · obtain ⟨c, rfl, _⟩ := h
    rfl
  · refine ⟨_, pss_one (ps_ret (pe_chain op_le op_le (pe_gi T.SA) (pv 0) (pe_gi T.SZ))), ?_⟩
    obtain ⟨c, rfl, k⟩ := h
    exact range_test (A := "") (B := "") (x := "") (st := sDigit) (fun c => by unfold Kh450.isLower; congr 1 <;> simp <;> omega) H Q c k
theorem scLetter : FnScope ["code"] ["code"] (defScope sLetter) := ⟨rfl, rfl, rfl, by decide +kernel, rfl, by decide +kernel, by decide +kernel⟩
theorem ok_letter (F : Fun K "is_letter" "is_letter" sLetter f fd) (DS : Def P w K mg base CX0 1 "is_small_letter" ["code"] (spFlag Kh450.isLower)) (DC : Def P w K mg base CX0 1 "is_capital_letter" ["code"] (spFlag Kh450.isUpper)) :
    FnOk P w K mg base CX0 2 f fd ["code"] (spFlag Kh455.isLetter) := by
  refine F.ok scLetter (fun vs H Q E h => ?_) (fun cdv A outer s H vs Q E hr h => ?_)
  · obtain ⟨c, rfl, _⟩ := h
    rfl
  · refine ⟨_, pss_one (ps_ret (pe_or (pe_d DS hr (by exact (pa_cons (pv 0) pa_nil))) (pe_one (pe_d DC hr (by exact (pa_cons (pv 0) pa_nil)))))), ?_⟩
    obtain ⟨c, rfl, k⟩ := h
    refine ⟨_, rfl, c, rfl, fun H1 s1 => ⟨_, rfl, ?_⟩⟩
    cases e : Kh450.isLower c with
    | true =>
      have z : Kh455.isLetter c = true := by
        unfold Kh455.isLetter
        rw [e]
        rfl
      rw [z] at k
      exact iteT (k _ s1)
    | false =>
      have z : Kh455.isLetter c = Kh450.isUpper c := by
        unfold Kh455.isLetter
        rw [e]
        rfl
      refine iteF ⟨_, rfl, c, rfl, fun H2 s2 => ?_⟩
      rw [← z]
      exact k _ (s1.trans s2)
theorem scLower : FnScope ["letter"] ["letter"] (defScope sLower) := ⟨rfl, rfl, rfl, by decide +kernel, rfl, by decide +kernel, by decide +kernel⟩
def spLowerS : Sp := fun vs H Q _ => ∃ c : Nat, vs = [.int c] ∧ ∀ H', Same H H' → Q (.int (Kh450.lowerCase c)) H'
theorem ok_lower (F : Fun K "to_small_letter" "to_small_letter" sLower f fd) (T : TChr mg) (DC : Def P w K mg base CX0 1 "is_capital_letter" ["code"] (spFlag Kh450.isUpper)) : FnOk P w K mg base CX0 2 f fd ["letter"] spLowerS := by
  refine F.ok scLower (fun vs H Q E h => ?_) (fun cdv A outer s H vs Q E hr h => ?_)
  · obtain ⟨c, rfl, _⟩ := h
    rfl
  · refine ⟨_, pss_cons (ps_if (pt_val (pe_d DC hr (by exact (pa_cons (pv 0) pa_nil)))) (pss_one (ps_ret (pe_op op_add (pe_op op_sub (pv 0) (pe_gi T.CA)) (pe_gi T.SA)))) pss_nil) (pss_one (ps_ret (pv 0))), ?_⟩
    obtain ⟨c, rfl, k⟩ := h
    refine ⟨_, rfl, c, rfl, fun H1 s1 => ⟨_, rfl, ?_⟩⟩
    unfold Kh450.lowerCase at k
    cases e : Kh450.isUpper c with
    | true =>
      rw [e, if_pos rfl] at k
      refine iteT ⟨_, rfl, _, _, rfl, rfl, _, _, rfl, rfl, ?_⟩
      have z : (c : Int) - 65 + 97 = ((c + 32 : Nat) : Int) := by
        omega
      show Q (.int ((c : Int) - 65 + 97)) _
      rw [z]
      exact k _ s1
    | false =>
      rw [e, if_neg Bool.false_ne_true] at k
      exact iteF ⟨_, rfl, k _ s1⟩
end
end Pl

namespace Pm
theorem wRun_len : ∀ (t : List Nat) (s : List (List Nat) × List Nat), (t.foldl wStep s).1.length ≤ s.1.length + t.length ∧ (t.foldl wStep s).2.length ≤ s.2.length + t.length
  | [], s => ⟨Nat.le_refl _, Nat.le_refl _⟩
  | c :: r, s => by
    have ih := wRun_len r (wStep s c)
    have h : (wStep s c).1.length ≤ s.1.length + 1 ∧ (wStep s c).2.length ≤ s.2.length + 1 := by
      unfold wStep
      split
      · split
        · exact ⟨Nat.le_succ _, Nat.le_succ _⟩
        · simp
      · simp
    rw [List.foldl_cons, List.length_cons]
    omega
theorem wRun_more {t : List Nat} {i c : Nat} (h : t[i]? = some c) (s : List (List Nat) × List Nat) : (t.take (i + 1)).foldl wStep s = wStep ((t.take i).foldl wStep s) c := by
  have e : t.take (i + 1) = t.take i ++ [c] := by
    rw [List.take_add_one, h]
    rfl
  rw [e, List.foldl_append]
  rfl
/-- words are no longer than the text -/
theorem wRun_mem : ∀ (t : List Nat) (s : List (List Nat) × List Nat) (n : Nat), (∀ w ∈ s.1, w.length ≤ n) → s.2.length ≤ n → ∀ w ∈ (t.foldl wStep s).1, w.length ≤ n + t.length
  | [], s, n, h1, _, w, hw => h1 w hw
  | c :: r, s, n, h1, h2, w, hw => by
    have key : (∀ w ∈ (wStep s c).1, w.length ≤ n + 1) ∧ (wStep s c).2.length ≤ n + 1 := by
      unfold wStep
      split
      · split
        · exact ⟨fun w hw => Nat.le_succ_of_le (h1 w hw), Nat.le_succ_of_le h2⟩
        · refine ⟨fun w hw => ?_, Nat.zero_le _⟩
          rcases List.mem_append.mp hw with q | q
          · exact Nat.le_succ_of_le (h1 w q)
          · rw [List.mem_singleton.mp q]
            exact Nat.le_succ_of_le h2
      · refine ⟨fun w hw => Nat.le_succ_of_le (h1 w hw), ?_⟩
        simp only [List.length_append, List.length_cons, List.length_nil]
        omega
    have := wRun_mem r (wStep s c) (n + 1) key.1 key.2 w hw
    rw [List.length_cons]
    omega
theorem words_short (t : List Nat) : (Kh455.wordsOf t).length ≤ t.length + 1 ∧ ∀ w ∈ Kh455.wordsOf t, w.length ≤ t.length := by
  rw [← wEnd_all]
  have h := wRun_len t ([], [])
  have h2 := wRun_mem t ([], []) 0 (by simp) (Nat.le_refl _)
  unfold wEnd
  simp only [List.length_nil, Nat.zero_add] at h h2
  split
  · exact ⟨by omega, h2⟩
  · refine ⟨by simp; omega, fun w hw => ?_⟩
    rcases List.mem_append.mp hw with q | q
    · exact h2 w q
    · rw [List.mem_singleton.mp q]
      exact h.2
end Pm
namespace Pl
open PySem PySem.Spec PyProof.Rows L2
/-- a list (at p) of lists (at as) of numbers -/
structure Lists (H : Hp) (p : Addr) (as : List Addr) (ws : List (List Nat)) : Prop where
  lst : H p = some (.lst (as.map V.ref))
  len : as.length = ws.length
  at_ : ∀ (i : Nat) (a : Addr) (w : List Nat), as[i]? = some a → ws[i]? = some w → H a = some (.lst (vn w))
theorem Lists.same {H H' : Hp} {p : Addr} {as : List Addr} {ws : List (List Nat)} (L : Lists H p as ws) (s : Same H H') : Lists H' p as ws := ⟨s _ _ L.lst, L.len, fun i a w h1 h2 => s _ _ (L.at_ i a w h1 h2)⟩
/-- an object beside it changes -/
theorem Lists.beside {H : Hp} {p q : Addr} {o : HO} {as : List Addr} {ws : List (List Nat)} (L : Lists H p as ws) (h1 : p ≠ q) (h2 : q ∉ as) : Lists (upd H q o) p as ws := by
  refine ⟨?_, L.len, fun i a w e1 e2 => ?_⟩
  · rw [upd_ne h1]
    exact L.lst
  · have ne : a ≠ q := fun z => h2 (by rw [← z]; exact List.mem_of_getElem? e1)
    rw [upd_ne ne]
    exact L.at_ i a w e1 e2
/-- one more -/
theorem Lists.more {H : Hp} {p q : Addr} {as : List Addr} {ws : List (List Nat)} {w : List Nat} (L : Lists H p as ws) (hq : H q = some (.lst (vn w))) (h1 : q ≠ p) (h2 : p ∉ as) : Lists (upd H p (.lst (as.map V.ref ++ [.ref q]))) p (as ++ [q]) (ws ++ [w]) := by
  refine ⟨?_, by simp [L.len], fun i a v e1 e2 => ?_⟩
  · rw [upd_same, List.map_append]
    rfl
  · by_cases hi : i < as.length
    · rw [List.getElem?_append_left hi] at e1
      rw [List.getElem?_append_left (by rw [← L.len]; exact hi)] at e2
      have ne : a ≠ p := fun z => h2 (by rw [← z]; exact List.mem_of_getElem? e1)
      rw [upd_ne ne]
      exact L.at_ i a v e1 e2
    · have hi' : as.length ≤ i := Nat.le_of_not_lt hi
      rw [List.getElem?_append_right hi'] at e1
      rw [List.getElem?_append_right (by rw [← L.len]; exact hi'), ← L.len] at e2
      have z : i - as.length = 0 := by
        cases q0 : i - as.length with
        | zero => rfl
        | succ n =>
          rw [q0] at e1
          simp at e1
      rw [z] at e1 e2
      simp only [List.getElem?_cons_zero, Option.some.injEq] at e1 e2
      subst e1 e2
      rw [upd_ne h1]
      exact hq
def spWords (K : PySem.W.Frag) : Sp := fun vs H Q _ => ∃ (a : Addr) (t : List Nat), vs = [.ref a] ∧ SqL K H a (vn t) ∧ t.length ≤ 1000 ∧ ∀ (H' : Hp) (p : Addr) (as : List Addr), Same H H' → H p = none → (∀ x ∈ as, H x = none) → Lists H' p as (Kh455.wordsOf t) → Q (.ref p) H'
section
variable {P : Program} {w : World} {K : PySem.W.Frag} {mg : Str → Option Value} {base : Heap} {f : Addr} {fd : FuncData}
theorem scWords : FnScope ["text", "words", "word", "code"] ["text"] (defScope sWords) := ⟨rfl, rfl, rfl, by decide +kernel, rfl, by decide +kernel, by decide +kernel⟩
/-- what stands between two turns: the words that are ended at pw, the one under way at pd -/
structure WordsAt (H0 H : Hp) (pw pd : Addr) (as : List Addr) (s : List (List Nat) × List Nat) : Prop where
  same : Same H0 H
  w0 : H0 pw = none
  d0 : H0 pd = none
  ne : pw ≠ pd
  nw : pw ∉ as
  nd : pd ∉ as
  ls : Lists H pw as s.1
  wd : H pd = some (.lst (vn s.2))
  na : ∀ x ∈ as, H0 x = none
theorem vn_empty (l : List Nat) : (!(vn l).isEmpty) = !l.isEmpty := by
  cases l <;> rfl
theorem ok_words (F : Fun K "words_of" "words_of" sWords f fd) (DW : Def P w K mg base CX0 1 "is_white_space" ["code"] (spFlag Kh450.isWhite)) : FnOk P w K mg base CX0 4 f fd ["text"] (spWords K) := by
  refine F.ok scWords (fun vs H Q E h => ?_) (fun cdv A outer s H vs Q E hr h => ?_)
  · obtain ⟨a, t, rfl, _⟩ := h
    rfl
  · have hr1 : Room 1 _ := hr.mono (by decide)
    refine ⟨_, pss_cons (ps_set (i := 1) scWords.nd rfl (Or.inl rfl) (pe_lst pa_nil))
      (pss_cons (ps_set (i := 2) scWords.nd rfl (Or.inl rfl) (pe_lst pa_nil))
      (pss_cons (ps_for PassesOwn.never rfl (pi_list (pv 0)) (pg_name (i := 3) scWords.nd rfl (Or.inl rfl))
        (pss_one (ps_if (pt_not (pt_val (pe_d DW hr1 (by exact (pa_cons (pv 3) pa_nil)))))
          (pss_one (ps_expr (pe_bm PySem.F.plainAttrs_list PySem.F.slot_list_append PySem.F.type_list_append mt_append (pv 2) (pa_cons (pv 3) pa_nil))))
          (pss_one (ps_if (pt_truth (pv 2) (by intro _; rfl))
            (pss_cons (ps_expr (pe_bm PySem.F.plainAttrs_list PySem.F.slot_list_append PySem.F.type_list_append mt_append (pv 1) (pa_cons (pv 2) pa_nil)))
              (pss_one (ps_set (i := 2) scWords.nd rfl (Or.inl rfl) (pe_lst pa_nil))))
            pss_nil)))))
      (pss_cons (ps_if (pt_truth (pv 2) (by intro _; rfl))
        (pss_one (ps_expr (pe_bm PySem.F.plainAttrs_list PySem.F.slot_list_append PySem.F.type_list_append mt_append (pv 1) (pa_cons (pv 2) pa_nil))))
        pss_nil)
      (pss_one (ps_ret (pv 1)))))), ?_⟩
    obtain ⟨a, t, rfl, hS, hlen, k⟩ := h
    refine ⟨Nat.zero_le _, fun pw npw => ⟨Nat.zero_le _, fun pd npd => ?_⟩⟩
    have s1 : Same H (upd H pw (.lst [])) := (Same.refl H).new npw
    have hpd : H pd = none := s1.free npd
    have npwd : pw ≠ pd := fun z => by
      rw [← z, upd_same] at npd
      cases npd
    have s2 : Same H (upd (upd H pw (.lst [])) pd (.lst [])) := s1.new npd
    have W0 : WordsAt H (upd (upd H pw (.lst [])) pd (.lst [])) pw pd [] ([], []) :=
      ⟨s2, npw, hpd, npwd, List.not_mem_nil, List.not_mem_nil, ⟨by rw [upd_ne npwd, upd_same]; rfl, rfl, fun i a w e => by simp at e⟩, upd_same, fun x h => absurd h List.not_mem_nil⟩
    refine ⟨_, rfl, a, rfl, ⟨_, s2.seq hS⟩, for_list (K := K) (a := a) (xs := vn t)
      (fun i σ H' => ∃ (pd : Addr) (as : List Addr) (v : Option V), σ = [some (.ref a), some (.ref pw), some (.ref pd), v] ∧ WordsAt H H' pw pd as ((t.take i).foldl Pm.wStep ([], [])))
      ⟨pd, [], none, rfl, W0⟩ (fun i σ H' _ ⟨_, _, _, _, W⟩ => W.same.seq hS) ?_ ?_⟩
    · rintro i x σ H' hi ⟨pd, as, v, rfl, W⟩
      obtain ⟨c, hc, rfl⟩ := vn_of hi
      have more := Pm.wRun_more hc ([], [])
      have short := Pm.wRun_len (t.take i) ([], [])
      have hti : (t.take i).length ≤ 1000 := by
        rw [List.length_take]
        omega
      simp only [List.length_nil, Nat.zero_add] at short
      generalize (t.take i).foldl Pm.wStep ([], []) = st at W more short
      refine ⟨_, rfl, c, rfl, fun H1 e1 => ⟨_, rfl, ?_⟩⟩
      have hwd := e1 _ _ W.wd
      have hls := W.ls.same e1
      cases ew : Kh450.isWhite c with
      | false =>
        have es : Pm.wStep st c = (st.1, st.2 ++ [c]) := by
          unfold Pm.wStep
          rw [ew, if_neg Bool.false_ne_true]
        rw [es] at more
        refine iteT ?_
        refine ⟨_, rfl, .inl ⟨rfl, _, SqL.of hwd⟩, _, rfl, pd, _, _, rfl, rfl, hwd, small1000 (by rw [vn_len]; omega), ?_⟩
        refine ⟨pd, as, some (.int c), rfl, ?_⟩
        rw [more]
        refine ⟨(W.same.trans e1).own W.d0, W.w0, W.d0, W.ne, W.nw, W.nd, hls.beside W.ne W.nd, ?_, W.na⟩
        rw [upd_same, vn_snoc]
      | true =>
        refine iteF ?_
        refine ⟨_, rfl, _, .inl ⟨_, SqL.of hwd, rfl⟩, ?_⟩
        rw [vn_empty]
        cases en : st.2.isEmpty with
        | true =>
          have es : Pm.wStep st c = st := by
            unfold Pm.wStep
            rw [ew, if_pos rfl, if_pos en]
          rw [es] at more
          refine iteF ⟨pd, as, some (.int c), rfl, ?_⟩
          rw [more]
          exact ⟨W.same.trans e1, W.w0, W.d0, W.ne, W.nw, W.nd, hls, hwd, W.na⟩
        | false =>
          have es : Pm.wStep st c = (st.1 ++ [st.2], []) := by
            unfold Pm.wStep
            rw [ew, if_pos rfl, if_neg (by rw [en]; exact Bool.false_ne_true)]
          rw [es] at more
          refine iteT ?_
          refine ⟨_, rfl, .inl ⟨rfl, _, SqL.of hls.lst⟩, _, rfl, pw, _, _, rfl, rfl, hls.lst, small1000 (by rw [List.length_map, hls.len]; omega), ?_⟩
          have L2' := hls.more hwd W.ne.symm W.nw
          refine ⟨Nat.zero_le _, fun q nq => ?_⟩
          have S2 : Same H (upd H1 pw (.lst (as.map V.ref ++ [.ref pd]))) := (W.same.trans e1).own W.w0
          have q0 : H q = none := S2.free nq
          have qpw : pw ≠ q := ne_of_none L2'.lst nq
          have qas : q ∉ as ++ [pd] := fun z => by
            obtain ⟨j, hj, e⟩ := List.getElem_of_mem z
            have e1' : (as ++ [pd])[j]? = some q := by rw [List.getElem?_eq_getElem hj, e]
            have hj2 : j < (st.1 ++ [st.2]).length := by rw [← L2'.len]; exact hj
            have z2 := L2'.at_ j q _ e1' (List.getElem?_eq_getElem hj2)
            rw [nq] at z2
            cases z2
          refine ⟨q, as ++ [pd], some (.int c), rfl, ?_⟩
          rw [more]
          refine ⟨S2.new nq, W.w0, q0, qpw, fun z => ?_, qas, L2'.beside qpw qas, upd_same, fun x hx => ?_⟩
          · rcases List.mem_append.mp z with z | z
            · exact W.nw z
            · exact W.ne (List.mem_singleton.mp z)
          · rcases List.mem_append.mp hx with z | z
            · exact W.na x z
            · rw [List.mem_singleton.mp z]
              exact W.d0
    · rintro σ H' ⟨pd, as, v, rfl, W⟩
      rw [vn_len, List.take_length] at W
      have done := Pm.wEnd_all t
      have short := Pm.wRun_len t ([], [])
      simp only [List.length_nil, Nat.zero_add] at short
      generalize t.foldl Pm.wStep ([], []) = st at W done short
      refine ⟨_, rfl, _, .inl ⟨_, SqL.of W.wd, rfl⟩, ?_⟩
      rw [vn_empty]
      unfold Pm.wEnd at done
      cases en : st.2.isEmpty with
      | true =>
        rw [en, if_pos rfl] at done
        have W' := W.ls
        rw [done] at W'
        exact iteF ⟨_, rfl, k H' pw as W.same W.w0 W.na W'⟩
      | false =>
        rw [en, if_neg Bool.false_ne_true] at done
        refine iteT ?_
        refine ⟨_, rfl, .inl ⟨rfl, _, SqL.of W.ls.lst⟩, _, rfl, pw, _, _, rfl, rfl, W.ls.lst, small1000 (by rw [List.length_map, W.ls.len]; omega), ?_⟩
        have L' := W.ls.more W.wd W.ne.symm W.nw
        rw [done] at L'
        refine ⟨_, rfl, k _ pw _ (W.same.own W.w0) W.w0 (fun x hx => ?_) L'⟩
        rcases List.mem_append.mp hx with z | z
        · exact W.na x z
        · rw [List.mem_singleton.mp z]
          exact W.d0
end
end Pl

namespace Pm
theorem pRun_cat : ∀ (u t : List Nat) (s : List Nat × List Nat × Bool), pRun (u ++ t) s = (pRun u s).bind (pRun t)
  | [], t, s => rfl
  | c :: u, t, s => by
    show (pStep s c).bind (pRun (u ++ t)) = ((pStep s c).bind (pRun u)).bind (pRun t)
    cases pStep s c with
    | none => rfl
    | some q => exact pRun_cat u t q
/-- it raises in the middle -/
theorem pRun_fails {w : List Nat} {i : Nat} {s : List Nat × List Nat × Bool} (h : pRun (w.take i) s = none) : pRun w s = none := by
  rw [← List.take_append_drop i w, pRun_cat, h]
  rfl
theorem patOf_fails {w : List Nat} (h : pRun w ([], [0], false) = none) : patOf w = none := by
  have := pRun_all w
  rw [h] at this
  unfold patOf
  cases e : Kh455.readPattern w with
  | none => rfl
  | some p =>
    rw [e] at this
    cases this
theorem patOf_reads {w l v : List Nat} {b : Bool} (h : pRun w ([], [0], false) = some (l, v, b)) : patOf w = if l.isEmpty then none else some ⟨l, v⟩ := by
  have := pRun_all w
  rw [h] at this
  unfold patOf
  cases e : Kh455.readPattern w with
  | none =>
    rw [e] at this
    cases this
  | some p =>
    rw [e] at this
    obtain ⟨pl, pv⟩ := p
    simp only [Option.map_some, Option.some.injEq, Prod.mk.injEq] at this
    obtain ⟨rfl, rfl⟩ := this
    rfl
/-- the lists of the loop stay short -/
theorem pRun_len : ∀ (w : List Nat) (s q : List Nat × List Nat × Bool), pRun w s = some q → q.1.length ≤ s.1.length + w.length ∧ q.2.1.length ≤ s.2.1.length + w.length ∧ s.2.1.length ≤ q.2.1.length
  | [], s, q, h => by
    cases h
    exact ⟨Nat.le_refl _, Nat.le_refl _, Nat.le_refl _⟩
  | c :: w, s, q, h => by
    have h' : (pStep s c).bind (pRun w) = some q := h
    cases e : pStep s c with
    | none =>
      rw [e] at h'
      cases h'
    | some s' =>
      rw [e] at h'
      have ih := pRun_len w s' q h'
      have hs : s'.1.length ≤ s.1.length + 1 ∧ s'.2.1.length ≤ s.2.1.length + 1 ∧ s.2.1.length ≤ s'.2.1.length := by
        unfold pStep at e
        split at e
        · split at e
          · cases e
          · cases e
            simp
        · split at e
          · cases e
            simp
          · cases e
      rw [List.length_cons]
      omega
theorem pRun_more {w : List Nat} {i c : Nat} {s q : List Nat × List Nat × Bool} (hc : w[i]? = some c) (h : pRun (w.take i) s = some q) : pRun (w.take (i + 1)) s = pStep q c := by
  have e : w.take (i + 1) = w.take i ++ [c] := by
    rw [List.take_add_one, hc]
    rfl
  rw [e, pRun_snoc, h]
  rfl
end Pm
namespace L2
open PySem PySem.Spec PyProof.Rows
theorem PS.weaker {X : Cx} {st : Stmt} {t t' : TS} (h : PS X st t) (i : ∀ D σ H, t' D σ H → t D σ H) : PS X st t' := ⟨fun pins s σ H D I q => h.run pins s σ H D I (i D σ H q)⟩
theorem PE.weaker {X : Cx} {e : Expr} {t t' : TE} (h : PE X e t) (i : ∀ σ H Q, t' σ H Q → t σ H Q) : PE X e t' := ⟨fun pins s σ H Q I q => h.run pins s σ H Q I (i σ H Q q)⟩
end L2
namespace Pl
open PySem PySem.Spec PyProof.Rows L2
/-! ### refusals -/
abbrev fAns (n : Int) : List (Str × V) := [(("answer" : Str), .int n)]
/-- Refusal.__init__(self, answer) -/
def spRefI (K : PySem.W.Frag) : Sp := fun vs H Q _ => ∃ (a C : Addr) (n : Int), vs = [.ref a, .int n] ∧ ErrC K C ∧ PySem.W.findIn K (.ref C) "answer" = some none ∧ H a = some (exo a C none) ∧
  ∀ dx, H dx = none → dx ≠ a → Q .non (upd (upd H dx (exd dx (fAns n))) a (exo a C (some dx)))
/-- .. of a refusal of the code n, at C -/
def spErrI (C : Addr) (n : Int) : Sp := fun vs H Q _ => ∃ a : Addr, vs = [.ref a] ∧ H a = some (exo a C none) ∧ ∀ dx, H dx = none → dx ≠ a → Q .non (upd (upd H dx (exd dx (fAns n))) a (exo a C (some dx)))
/-- what is known of such a class -/
structure Err (P : Program) (w : World) (K : PySem.W.Frag) (mg : Str → Option Value) (base : Heap) (x : Str) (C : Addr) (n : Int) : Prop where
  cls : ErrC K C
  mgC : mg x = some (.ref C)
  ini : ∃ fI fd, PySem.W.findIn K (.ref C) "__init__" = some (some (.ref fI)) ∧ PySem.W.typeIn K (.ref fI) = some (.type "function") ∧ Binds K fd ["self"] [] ∧ FnOk P w K mg base CX0 3 fI fd ["self"] (spErrI C n)
/-- what a raise hands on: a new dict that bears the code -/
def tErr (C : Addr) (n : Int) (W : WX) : TS := fun _ σ H => ∀ d, H d = none → W (.ref C) (some d) σ (upd H d (.xd (fAns n)))
theorem ps_refuse {X : Cx} {W : WX} {x : Str} {C : Addr} {n : Int} {p pos pos2 : Pos} (hc : X.calm = true) (T : Err X.prog X.w X.K X.mg X.base x C n) (hr : Room 4 X.A) (tk : Takes X W) (hg : Gl X x := by rfl) (hdb : (x == ("__debug__" : Str)) = false := by decide) :
    PS X (.Raise (some (.Call (.Name x p) [] [] pos)) none pos2) (tErr C n W) := by
  obtain ⟨fI, fd, iC, tI, hb, F⟩ := T.ini
  refine (ps_raise hc tk (pmk_err T.cls iC tI F hr hb pass0 hg T.mgC hdb)).weaker fun D σ H h a na => ?_
  refine ⟨a, rfl, upd_same, fun dx ndx ne => ⟨rfl, dx, fAns n, upd_same, ?_, ?_, ?_⟩⟩
  · rw [upd_ne ne, upd_same]
  · rw [upd_ne ne] at ndx
    exact ndx
  · rw [upd_ne ne] at ndx
    have e : upd (del (upd (upd (upd H a (exo a C none)) dx (exd dx (fAns n))) a (exo a C (some dx))) a) dx (.xd (fAns n)) = upd H dx (.xd (fAns n)) := by
      funext b
      by_cases h1 : b = dx
      · rw [h1, upd_same, upd_same]
      · rw [upd_ne h1, upd_ne h1]
        by_cases h2 : b = a
        · rw [h2, del_same, na]
        · rw [del_ne h2, upd_ne h2, upd_ne h1, upd_ne h2]
    rw [e]
    exact h dx ndx
section
variable {P : Program} {w : World} {K : PySem.W.Frag} {mg : Str → Option Value} {base : Heap} {f : Addr} {fd : FuncData}
theorem scRefI : FnScope ["self", "answer"] ["self", "answer"] (defScope sRefI) := ⟨rfl, rfl, rfl, by decide +kernel, rfl, by decide +kernel, by decide +kernel⟩
theorem ok_refI (F : Fun K "__init__" "Refusal.__init__" sRefI f fd) : FnOk P w K mg base CX0 1 f fd ["self", "answer"] (spRefI K) := by
  refine F.ok scRefI (fun vs H Q E h => ?_) (fun cdv A outer s H vs Q E hr h => ⟨_, pss_one (ps_errF (pv 0) (pv 1)), ?_⟩)
  · obtain ⟨a, C, n, rfl, _⟩ := h
    rfl
  · obtain ⟨a, C, n, rfl, T, no, ha, k⟩ := h
    exact ⟨_, rfl, _, rfl, a, C, rfl, T, no, ha, k⟩
/-- the base class as it is read: Refusal.__init__ -/
structure BaseI (P : Program) (w : World) (K : PySem.W.Frag) (mg : Str → Option Value) (base : Heap) : Prop where
  ini : ∃ (CR fR : Addr) (mc : Value) (fd : FuncData), mg "Refusal" = some (.ref CR) ∧ ClX.CRead K CR mc ∧ ClX.CVal K CR mc "__init__" (.ref fR) (.ref fR) ∧ PySem.W.keepIn K (.ref fR) = true ∧
    Binds K fd ["self", "answer"] [] ∧ FnOk P w K mg base CX0 1 fR fd ["self", "answer"] (spRefI K)
theorem scNpI : FnScope ["self"] ["self"] (defScope sNpI) := ⟨rfl, rfl, rfl, by decide +kernel, rfl, by decide +kernel, by decide +kernel⟩
theorem ok_npI {C : Addr} (F : Fun K "__init__" "NotPatterns.__init__" sNpI f fd) (T : ErrC K C) (no : PySem.W.findIn K (.ref C) "answer" = some none) (B : BaseI P w K mg base) : FnOk P w K mg base CX0 3 f fd ["self"] (spErrI C (-21)) := by
  obtain ⟨CR, fR, mc, fdR, hm, r, c, kp, hb, G⟩ := B.ini
  refine F.ok scNpI (fun vs H Q E h => ?_) (fun cdv A outer s H vs Q E hr h => ⟨_, pss_one (ps_expr (pe_base r c G (hr.mono (by decide)) kp hb pass0 rfl hm (by exact (pa_cons (pv 0) (pa_cons (pe_un un_neg pe_int) pa_nil))))), ?_⟩)
  · obtain ⟨a, rfl, _⟩ := h
    rfl
  · obtain ⟨a, rfl, ha, k⟩ := h
    exact ⟨_, rfl, 21, rfl, a, C, -21, rfl, T, no, ha, k⟩
theorem scNuI : FnScope ["self"] ["self"] (defScope sNuI) := ⟨rfl, rfl, rfl, by decide +kernel, rfl, by decide +kernel, by decide +kernel⟩
theorem ok_nuI {C : Addr} (F : Fun K "__init__" "NotUtf8.__init__" sNuI f fd) (T : ErrC K C) (no : PySem.W.findIn K (.ref C) "answer" = some none) (B : BaseI P w K mg base) : FnOk P w K mg base CX0 3 f fd ["self"] (spErrI C (-24)) := by
  obtain ⟨CR, fR, mc, fdR, hm, r, c, kp, hb, G⟩ := B.ini
  refine F.ok scNuI (fun vs H Q E h => ?_) (fun cdv A outer s H vs Q E hr h => ⟨_, pss_one (ps_expr (pe_base r c G (hr.mono (by decide)) kp hb pass0 rfl hm (by exact (pa_cons (pv 0) (pa_cons (pe_un un_neg pe_int) pa_nil))))), ?_⟩)
  · obtain ⟨a, rfl, _⟩ := h
    rfl
  · obtain ⟨a, rfl, ha, k⟩ := h
    exact ⟨_, rfl, 24, rfl, a, C, -24, rfl, T, no, ha, k⟩

/-! ### patterns -/
abbrev fPat (la va : Addr) : List (Str × V) := [(("letters" : Str), .ref la), (("levels" : Str), .ref va)]
/-- a Pattern's four objects: itself, its dict, its letters, its levels -/
abbrev P4 := Addr × Addr × Addr × Addr
structure PatAt (C : Addr) (H : Hp) (q : P4) (p : Kh455.Pattern) : Prop where
  ins : H q.1 = some (.ins C q.2.1 (fPat q.2.2.1 q.2.2.2))
  lt : H q.2.2.1 = some (.lst (vn p.letters))
  lv : H q.2.2.2 = some (.lst (vn p.levels))
theorem PatAt.same {C : Addr} {H H' : Hp} {q : P4} {p : Kh455.Pattern} (x : PatAt C H q p) (s : Same H H') : PatAt C H' q p := ⟨s _ _ x.ins, s _ _ x.lt, s _ _ x.lv⟩
/-- none of them is at D -/
def P4.off (q : P4) (D : Addr) : Prop := q.1 ≠ D ∧ q.2.2.1 ≠ D ∧ q.2.2.2 ≠ D
theorem PatAt.beside {C D : Addr} {H : Hp} {o : HO} {q : P4} {p : Kh455.Pattern} (x : PatAt C H q p) (h : q.off D) : PatAt C (upd H D o) q p :=
  ⟨by rw [upd_ne h.1]; exact x.ins, by rw [upd_ne h.2.1]; exact x.lt, by rw [upd_ne h.2.2]; exact x.lv⟩
structure TPat (K : PySem.W.Frag) (mg : Str → Option Value) (C : Addr) : Prop where
  cl : Cls K C
  nL : NoAttr K C "letters"
  nV : NoAttr K C "levels"
  gC : mg "Pattern" = some (.ref C)
  pt : IntG mg "POINT" 46
def spPatI (C : Addr) : Sp := fun vs H Q _ => ∃ (p dx la va : Addr), vs = [.ref p, .ref la, .ref va] ∧ H p = some (.ins C dx []) ∧ ∀ H' : Hp, H' p = some (.ins C dx (fPat la va)) → (∀ b, b ≠ p → H' b = H b) → Q .non H'
theorem scPatI : FnScope ["self", "letters", "levels"] ["self", "letters", "levels"] (defScope sPatI) := ⟨rfl, rfl, rfl, by decide +kernel, rfl, by decide +kernel, by decide +kernel⟩
theorem ok_patI {C : Addr} (F : Fun K "__init__" "Pattern.__init__" sPatI f fd) (T : TPat K mg C) : FnOk P w K mg base CX0 1 f fd ["self", "letters", "levels"] (spPatI C) := by
  refine F.ok scPatI (fun vs H Q E h => ?_) (fun cdv A outer s H vs Q E hr h => ⟨_, pss_cons (ps_fld (pv 0) (pv 1) rfl) (pss_one (ps_fld (pv 0) (pv 2) rfl)), ?_⟩)
  · obtain ⟨p, dx, la, va, rfl, _⟩ := h
    rfl
  · obtain ⟨p, dx, la, va, rfl, hp, k⟩ := h
    refine ⟨_, rfl, _, rfl, p, C, dx, [], rfl, hp, T.cl, T.nL, (by show 0 < 1000; decide), ?_⟩
    refine ⟨_, rfl, _, rfl, p, C, dx, _, rfl, upd_same, T.cl, T.nV, (by show 1 < 1000; decide), ?_⟩
    refine k _ ?_ fun b hb => by rw [upd_ne hb, upd_ne hb]
    rw [upd_same]
    have e : putF "levels" (.ref va) (putF "letters" (.ref la) ([] : List (Str × V))) = fPat la va := by
      show putF "levels" (.ref va) [(("letters" : Str), V.ref la)] = _
      unfold putF
      rw [if_neg (by decide +kernel)]
      rfl
    exact congrArg (fun q => some (HO.ins C dx q)) e
/-- pattern_of: it raises, or hands back a new Pattern -/
def spPat (K : PySem.W.Frag) (C CE : Addr) : Sp := fun vs H Q E => ∃ (a : Addr) (w : List Nat), vs = [.ref a] ∧ SqL K H a (vn w) ∧ w.length ≤ 1000 ∧
  (Pm.patOf w = none → ∀ (d : Addr) (H' : Hp), Same H H' → H' d = some (.xd (fAns (-21))) → E (.ref CE) (some d) H') ∧
  (∀ p, Pm.patOf w = some p → ∀ (H' : Hp) (q : P4), Same H H' → (∀ b, H b ≠ none → q.off b) → PatAt C H' q p → Q (.ref q.1) H')
theorem scPat : FnScope ["word", "letters", "levels", "after_digit", "code"] ["word"] (defScope sPat) := ⟨rfl, rfl, rfl, by decide +kernel, rfl, by decide +kernel, by decide +kernel⟩
theorem vn_set (l : List Nat) (i n : Nat) : (vn l).set i (.int n) = vn (l.set i n) := by
  unfold vn
  rw [List.map_set]
structure PatLoop (H0 H : Hp) (pl pv : Addr) (l v : List Nat) : Prop where
  same : Same H0 H
  l0 : H0 pl = none
  v0 : H0 pv = none
  ne : pl ≠ pv
  lt : H pl = some (.lst (vn l))
  lv : H pv = some (.lst (vn v))
theorem PatLoop.later {H0 H H' : Hp} {pl pv : Addr} {l v : List Nat} (x : PatLoop H0 H pl pv l v) (s : Same H H') : PatLoop H0 H' pl pv l v := ⟨x.same.trans s, x.l0, x.v0, x.ne, s _ _ x.lt, s _ _ x.lv⟩
/-- a letter is taken -/
theorem pat_accept {D : Ends} {H0 H : Hp} {a pl pv : Addr} {c : Nat} {l v : List Nat} {b : Bool} (x : PatLoop H0 H pl pv l v) (h1 : l.length ≤ 900000) (h2 : v.length ≤ 900000)
    (k : ∀ H', PatLoop H0 H' pl pv (l ++ [c]) (v ++ [0]) → D.nx [some (.ref a), some (.ref pl), some (.ref pv), some (.bl false), some (.int c)] H') :
    tSeq (tDrop (tBM K "list" rAppend (tVar 1) (tCons (tVar 4) tNil))) (tSeq (tDrop (tBM K "list" rAppend (tVar 2) (tCons (tC (.int 0)) tNil))) (tAsg (tC (.bl false)) (gName 3))) D
      [some (.ref a), some (.ref pl), some (.ref pv), some (.bl b), some (.int c)] H := by
  have big : 900000 < sizeLine := by decide
  refine ⟨_, rfl, .inl ⟨rfl, _, SqL.of x.lt⟩, _, rfl, pl, _, _, rfl, rfl, x.lt, (by rw [vn_len]; omega), ?_⟩
  have hv : upd H pl (.lst (vn l ++ [.int c])) pv = some (.lst (vn v)) := by
    rw [upd_ne x.ne.symm]
    exact x.lv
  refine ⟨_, rfl, .inl ⟨rfl, _, SqL.of hv⟩, pv, _, _, rfl, rfl, hv, (by rw [vn_len]; omega), ?_⟩
  refine k _ ⟨(x.same.own x.l0).own x.v0, x.l0, x.v0, x.ne, ?_, ?_⟩
  · rw [upd_ne x.ne, upd_same, vn_snoc]
  · rw [upd_same]
    exact congrArg (fun q => some (HO.lst q)) (vn_snoc v 0)
theorem ok_pat {C CE fI : Addr} {fdI : FuncData} (F : Fun K "pattern_of" "pattern_of" sPat f fd) (T : TPat K mg C) (TC : TChr mg) (M : Mk K C fI) (GI : FnOk P w K mg base CX0 1 fI fdI ["self", "letters", "levels"] (spPatI C)) (bI : Binds K fdI ["self", "letters", "levels"] [])
    (TE : Err P w K mg base "NotPatterns" CE (-21)) (DD : Def P w K mg base CX0 1 "is_digit" ["code"] (spFlag Kh450.isDigit)) (DS : Def P w K mg base CX0 1 "is_small_letter" ["code"] (spFlag Kh450.isLower)) :
    FnOk P w K mg base (L2.CX P w) 8 f fd ["word"] (spPat K C CE) := by
  refine F.okX scPat (fun vs H Q E h => ?_) (fun cdv A outer s H vs Q E hr h => ?_)
  · obtain ⟨a, t, rfl, _⟩ := h
    rfl
  · have hr1 : Room 1 _ := hr.mono (by decide)
    have hr2 : Room 2 _ := hr.mono (by decide)
    have hr4 : Room 4 _ := hr.mono (by decide)
    refine ⟨_, pss_cons (ps_set (i := 1) scPat.nd rfl (Or.inl rfl) (pe_lst pa_nil))
      (pss_cons (ps_set (i := 2) scPat.nd rfl (Or.inl rfl) (pe_lst (pa_cons pe_int pa_nil)))
      (pss_cons (ps_set (i := 3) scPat.nd rfl (Or.inl rfl) pe_bl)
      (pss_cons (ps_for (passes_of rfl) rfl (pi_list (pv 0)) (pg_name (i := 4) scPat.nd rfl (Or.inl rfl))
        (pss_one (ps_if (pt_val (pe_d DD hr1 (by exact (pa_cons (pv 4) pa_nil))))
          (pss_cons (ps_if (pt_val (pv 3)) (pss_one (ps_refuse rfl TE hr4 (takes_of rfl rfl rfl rfl))) pss_nil)
            (pss_cons (ps_asg (pe_op op_sub (pv 4) (pe_gi TC.D0)) (pg_sub (pv 2) (pe_un un_neg pe_int) set_list))
            (pss_one (ps_set (i := 3) scPat.nd rfl (Or.inl rfl) pe_bl))))
          (pss_one (ps_if (PW.pt (pw_or (pt_val (pe_d DS hr1 (by exact (pa_cons (pv 4) pa_nil)))) (pw_or1 (pt_cmpR op_eq (pv 4) (pe_gi T.pt) (nomark _)))))
            (pss_cons (ps_expr (pe_bm PySem.F.plainAttrs_list PySem.F.slot_list_append PySem.F.type_list_append mt_append (pv 1) (pa_cons (pv 4) pa_nil)))
              (pss_cons (ps_expr (pe_bm PySem.F.plainAttrs_list PySem.F.slot_list_append PySem.F.type_list_append mt_append (pv 2) (pa_cons pe_int pa_nil)))
              (pss_one (ps_set (i := 3) scPat.nd rfl (Or.inl rfl) pe_bl))))
            (pss_one (ps_refuse rfl TE hr4 (takes_of rfl rfl rfl rfl))))))))
      (pss_cons (ps_if (pt_not (pt_truth (pv 1) (by intro _; rfl))) (pss_one (ps_refuse rfl TE hr4 (takes_of rfl rfl rfl rfl))) pss_nil)
      (pss_one (ps_ret (pe_make M GI hr2 rfl T.gC bI .nil pass0 (by exact (pa_cons (pv 1) (pa_cons (pv 2) pa_nil))))))))))  , ?_⟩
    obtain ⟨a, t, rfl, hS, hlen, kN, kS⟩ := h
    have big : 900000 < sizeLine := by decide
    refine ⟨Nat.zero_le _, fun pl npl => ⟨(by show 1 ≤ sizeLine; decide), fun pv npv => ?_⟩⟩
    have s1 : Same H (upd H pl (.lst [])) := (Same.refl H).new npl
    have hpv : H pv = none := s1.free npv
    have ne0 : pl ≠ pv := fun z => by
      rw [← z, upd_same] at npv
      cases npv
    have L0 : PatLoop H (upd (upd H pl (.lst [])) pv (.lst [.int (0 : Nat)])) pl pv [] [0] := ⟨s1.new npv, npl, hpv, ne0, by rw [upd_ne ne0, upd_same]; rfl, upd_same⟩
    -- what a raise hands on
    have refuse : Pm.patOf t = none → ∀ H1, Same H H1 → ∀ d, H1 d = none → E (.ref CE) (some d) (upd H1 d (.xd (fAns (-21)))) := fun e H1 s1 d nd => kN e d _ (s1.new nd) upd_same
    refine ⟨_, rfl, a, rfl, ⟨_, L0.same.seq hS⟩, for_list (K := K) (a := a) (xs := vn t)
      (fun i σ H' => ∃ (l v : List Nat) (b : Bool) (x : Option V), σ = [some (.ref a), some (.ref pl), some (.ref pv), some (.bl b), x] ∧ PatLoop H H' pl pv l v ∧ Pm.pRun (t.take i) ([], [0], false) = some (l, v, b))
      ⟨[], [0], false, none, rfl, L0, rfl⟩ (fun i σ H' _ ⟨_, _, _, _, _, L, _⟩ => L.same.seq hS) ?_ ?_⟩
    · rintro i x σ H' hi ⟨l, v, b, x4, rfl, L, hrun⟩
      obtain ⟨c, hc, rfl⟩ := vn_of hi
      have more := Pm.pRun_more hc hrun
      have short := Pm.pRun_len _ _ _ hrun
      simp only [List.length_nil, List.length_cons, List.length_take] at short
      have fails : Pm.pStep (l, v, b) c = none → Pm.patOf t = none := fun e => Pm.patOf_fails (Pm.pRun_fails (i := i + 1) (more.trans e))
      refine ⟨_, rfl, c, rfl, fun H1 e1 => ⟨_, rfl, ?_⟩⟩
      have L1 := L.later e1
      cases ed : Kh450.isDigit c with
      | true =>
        refine iteT ⟨_, rfl, _, rfl, ?_⟩
        cases b with
        | true =>
          refine iteT fun d nd => refuse (fails ?_) H1 L1.same d nd
          unfold Pm.pStep
          rw [if_pos ed, if_pos rfl]
        | false =>
          have es : Pm.pStep (l, v, false) c = some (l, v.set (v.length - 1) (c - 48), true) := by
            unfold Pm.pStep
            rw [if_pos ed, if_neg Bool.false_ne_true]
          have c48 : ((c : Int) - 48) = ((c - 48 : Nat) : Int) := by
            unfold Kh450.isDigit at ed
            simp only [Bool.and_eq_true, decide_eq_true_eq] at ed
            omega
          refine iteF ⟨_, rfl, _, _, rfl, rfl, _, rfl, _, rfl, pv, vn v, -1, v.length - 1, rfl, rfl, L1.lv, ?_, ?_⟩
          · unfold ixN
            rw [vn_len, if_neg (by decide), if_pos (by omega)]
            congr 1
            omega
          · refine ⟨l, v.set (v.length - 1) (c - 48), true, some (.int c), rfl, ?_, more.trans es⟩
            refine ⟨L1.same.own L1.v0, L1.l0, L1.v0, L1.ne, ?_, ?_⟩
            · rw [upd_ne L1.ne]
              exact L1.lt
            · rw [upd_same]
              show some (HO.lst ((vn v).set (v.length - 1) (.int ((c : Int) - 48)))) = _
              rw [c48, vn_set]
      | false =>
        refine iteF ⟨_, rfl, c, rfl, fun H2 e2 => ⟨_, rfl, ?_⟩⟩
        have L2' := L1.later e2
        have accept : (Kh450.isLower c || c == 46) = true → Pm.pStep (l, v, b) c = some (l ++ [c], v ++ [0], false) := fun e => by
          unfold Pm.pStep
          rw [if_neg (by rw [ed]; exact Bool.false_ne_true), if_pos e]
        cases el : Kh450.isLower c with
        | true =>
          refine iteT (iteT ?_)
          exact pat_accept L2' (by omega) (by omega) fun H3 L3 => ⟨_, _, _, some (.int c), rfl, L3, more.trans (accept (by rw [el]; rfl))⟩
        | false =>
          refine iteF ⟨_, rfl, rfl, _, rfl, ?_⟩
          by_cases e46 : c = 46
          · refine if_true_of (by rw [e46]; rfl) ?_
            exact pat_accept L2' (by omega) (by omega) fun H3 L3 => ⟨_, _, _, some (.int c), rfl, L3, more.trans (accept (by rw [e46]; rfl))⟩
          · refine if_false_of (decide_eq_false fun z => e46 ?_) fun d nd => refuse (fails ?_) H2 L2'.same d nd
            · injection z with z
              omega
            · unfold Pm.pStep
              rw [if_neg (by rw [ed]; exact Bool.false_ne_true), if_neg]
              rw [el, Bool.false_or, beq_iff_eq]
              exact e46
    · rintro σ H' ⟨l, v, b, x4, rfl, L, hrun⟩
      rw [vn_len, List.take_length] at hrun
      have reads := Pm.patOf_reads hrun
      refine ⟨_, rfl, _, .inl ⟨_, SqL.of L.lt, rfl⟩, ?_⟩
      rw [vn_empty]
      cases en : l.isEmpty with
      | true =>
        rw [en, if_pos rfl] at reads
        exact iteT fun d nd => refuse reads H' L.same d nd
      | false =>
        rw [en, if_neg Bool.false_ne_true] at reads
        refine iteF ⟨_, rfl, _, rfl, fun x dx nx ndx ne => ?_⟩
        refine ⟨x, dx, pl, pv, rfl, upd_same, fun H2 hx hb => ⟨rfl, ?_⟩⟩
        have old : Same H' H2 := fun b o e => by
          have bx : b ≠ x := ne_of_none e nx
          have bdx : b ≠ dx := ne_of_none e ndx
          rw [hb b bx, upd_ne bx, upd_ne bdx]
          exact e
        refine kS _ reads H2 (x, dx, pl, pv) (L.same.trans old) (fun b hne => ⟨fun z => ?_, fun z => ?_, fun z => ?_⟩) ⟨hx, old _ _ L.lt, old _ _ L.lv⟩
        · have z' : x = b := z
          rw [← z'] at hne
          exact hne (L.same.free nx)
        · have z' : pl = b := z
          rw [← z'] at hne
          exact hne L.l0
        · have z' : pv = b := z
          rw [← z'] at hne
          exact hne L.v0
end
end Pl

namespace Pm
theorem pats_snoc : ∀ (u : List (List Nat)) (w : List Nat), pats (u ++ [w]) = (pats u).bind fun l => (patOf w).map fun p => l ++ [p]
  | [], w => by
    show (match patOf w, pats [] with | some p, some l => some (p :: l) | _, _ => none) = _
    show _ = (patOf w).map fun p => [p]
    cases patOf w <;> rfl
  | a :: u, w => by
    show (match patOf a, pats (u ++ [w]) with | some p, some l => some (p :: l) | _, _ => none) = (match patOf a, pats u with | some p, some l => some (p :: l) | _, _ => none : Option (List Kh455.Pattern)).bind _
    rw [pats_snoc u w]
    cases patOf a with
    | none => rfl
    | some p =>
      cases pats u with
      | none => rfl
      | some l =>
        cases patOf w <;> rfl
theorem pats_fails : ∀ (ws : List (List Nat)) (w : List Nat), w ∈ ws → patOf w = none → pats ws = none
  | a :: r, w, hw, h => by
    show (match patOf a, pats r with | some p, some l => some (p :: l) | _, _ => none) = none
    rcases List.mem_cons.mp hw with z | z
    · rw [← z, h]
    · rw [pats_fails r w z h]
      cases patOf a <;> rfl
theorem pats_len : ∀ (ws : List (List Nat)) (l : List Kh455.Pattern), pats ws = some l → l.length = ws.length
  | [], l, h => by
    cases h
    rfl
  | w :: r, l, h => by
    have h' : (match patOf w, pats r with | some p, some l => some (p :: l) | _, _ => none) = some l := h
    cases e : patOf w with
    | none =>
      rw [e] at h'
      cases h'
    | some p =>
      cases e2 : pats r with
      | none =>
        rw [e, e2] at h'
        cases h'
      | some l' =>
        rw [e, e2] at h'
        cases h'
        rw [List.length_cons, List.length_cons, pats_len r l' e2]
end Pm
namespace Pl
open PySem PySem.Spec PyProof.Rows L2
/-- a list (at l) of Patterns -/
structure Pats (C : Addr) (H : Hp) (l : Addr) (qs : List P4) (ps : List Kh455.Pattern) : Prop where
  lst : H l = some (.lst (qs.map fun q : P4 => V.ref q.1))
  len : qs.length = ps.length
  at_ : ∀ (i : Nat) (q : P4) (p : Kh455.Pattern), qs[i]? = some q → ps[i]? = some p → PatAt C H q p
theorem Pats.same {C l : Addr} {H H' : Hp} {qs : List P4} {ps : List Kh455.Pattern} (x : Pats C H l qs ps) (s : Same H H') : Pats C H' l qs ps := ⟨s _ _ x.lst, x.len, fun i q p h1 h2 => (x.at_ i q p h1 h2).same s⟩
def spPats (K : PySem.W.Frag) (C CE : Addr) : Sp := fun vs H Q E => ∃ (a : Addr) (t : List Nat), vs = [.ref a] ∧ SqL K H a (vn t) ∧ t.length ≤ 900 ∧
  (Pm.pats (Kh455.wordsOf t) = none → ∀ (d : Addr) (H' : Hp), Same H H' → H' d = some (.xd (fAns (-21))) → E (.ref CE) (some d) H') ∧
  (∀ ps, Pm.pats (Kh455.wordsOf t) = some ps → ∀ (H' : Hp) (l : Addr) (qs : List P4), Same H H' → Pats C H' l qs ps → Q (.ref l) H')
section
variable {P : Program} {w : World} {K : PySem.W.Frag} {mg : Str → Option Value} {base : Heap} {f : Addr} {fd : FuncData}
theorem scPats : FnScope ["text", "word"] ["text"] (defScope sPats) := ⟨rfl, rfl, rfl, by decide +kernel, rfl, by decide +kernel, by decide +kernel⟩
theorem ok_pats {C CE : Addr} (F : Fun K "patterns_of" "patterns_of" sPats f fd) (DW : Def P w K mg base CX0 4 "words_of" ["text"] (spWords K)) (DP : Def P w K mg base (L2.CX P w) 8 "pattern_of" ["word"] (spPat K C CE)) :
    FnOk P w K mg base (L2.CX P w) 12 f fd ["text"] (spPats K C CE) := by
  obtain ⟨fP, fdP, hmP, hkP, hbP, GP⟩ := DP
  refine F.okX scPats (fun vs H Q E h => ?_) (fun cdv A outer s H vs Q E hr h => ?_)
  · obtain ⟨a, t, rfl, _⟩ := h
    rfl
  · have hr4 : Room 4 _ := hr.mono (by decide)
    have hr8 : Room 8 _ := hr.mono (by decide)
    refine ⟨_, pss_one (ps_ret (pe_lcX (W := fun cls d _ H => E cls d H) (own := [("word", 1)]) (g := gName 1) (tt := tYes) (te := fun E' => tCallS (spPat K C CE) (fun _ => E') (tCons (tVar 1) tNil)) rfl scPats.nd rfl rfl (takes_of rfl rfl rfl rfl)
      (pi_list (pe_d DW hr4 (by exact (pa_cons (pv 0) pa_nil)))) (blkOk_by (N := ["text", "word"]) (sc := defScope sPats) (by decide +kernel)) (fun _ _ _ _ _ => pg_name (i := 1) scPats.nd rfl (Or.inl rfl)) (fun _ _ _ _ _ => pts_nil)
      (fun _ _ _ _ _ _ _ E' hx => pe_callS GP hr8 rfl hmP hkP hbP hx (by exact (pa_cons (pv 1) pa_nil))))), ?_⟩
    obtain ⟨a, t, rfl, hS, hlen, kN, kS⟩ := h
    have short := Pm.words_short t
    refine ⟨_, rfl, a, t, rfl, hS, (by omega), fun H1 p as s1 _ _ L => ⟨p, rfl, ⟨_, SqL.of L.lst⟩, fun D nD => ?_⟩⟩
    generalize Kh455.wordsOf t = ws at L short kN kS
    refine lc_list (K := K) (a := p) (xs := as.map V.ref) (fun i H' => ∃ (qs : List P4) (ps : List Kh455.Pattern), H' D = some (.lst (qs.map fun q : P4 => V.ref q.1)) ∧ Same H1 H' ∧ Pm.pats (ws.take i) = some ps ∧ qs.length = ps.length ∧
        ∀ (j : Nat) (q : P4) (p : Kh455.Pattern), qs[j]? = some q → ps[j]? = some p → PatAt C H' q p ∧ q.off D)
      ⟨[], [], upd_same, (Same.refl H1).new nD, rfl, rfl, fun j q p e => by simp at e⟩ (fun i H' _ ⟨_, _, _, s2, _⟩ => s2.seq (SqL.of L.lst)) ?_ ?_
    · rintro i x H' hi ⟨qs, ps, hD, s2, hps, hlen2, hat⟩
      rw [List.getElem?_map] at hi
      cases ea : as[i]? with
      | none =>
        rw [ea] at hi
        cases hi
      | some ai =>
        rw [ea] at hi
        cases hi
        have hiw : i < ws.length := by
          rw [← L.len]
          exact (List.getElem?_eq_some_iff.mp ea).1
        have hw := List.getElem?_eq_getElem hiw
        have hwd := (L.same s2).at_ i ai _ ea hw
        have hmem : ws[i] ∈ ws := List.getElem_mem hiw
        have takes : Pm.pats (ws.take (i + 1)) = (Pm.patOf ws[i]).map fun p => ps ++ [p] := by
          rw [take_more hw, Pm.pats_snoc, hps]
          rfl
        generalize ws[i] = wd at *
        refine ⟨rfl, ?_⟩
        unfold tYes
        dsimp only
        rw [if_pos rfl]
        refine ⟨_, rfl, ai, wd, rfl, SqL.of hwd, ?_, fun e d H2 s3 hd => ?_, fun q e H2 q4 s3 off pat => ?_⟩
        · have := short.2 wd hmem
          omega
        · exact kN (Pm.pats_fails ws wd hmem e) d H2 ((s1.trans s2).trans s3) hd
        · rw [e] at takes
          have hpsl := Pm.pats_len _ _ hps
          refine ⟨_, s3 _ _ hD, small1000 (by rw [List.length_map, hlen2, hpsl, List.length_take]; omega), qs ++ [q4], ps ++ [q], ?_, (s2.trans s3).own nD, takes, by simp [hlen2], fun j r p h1 h2 => ?_⟩
          · rw [upd_same, List.map_append]
            rfl
          · by_cases hj : j < qs.length
            · rw [List.getElem?_append_left hj] at h1
              rw [List.getElem?_append_left (by rw [← hlen2]; exact hj)] at h2
              obtain ⟨pa, of⟩ := hat j r p h1 h2
              exact ⟨(pa.same s3).beside of, of⟩
            · have hj' : qs.length ≤ j := Nat.le_of_not_lt hj
              rw [List.getElem?_append_right hj'] at h1
              rw [List.getElem?_append_right (by rw [← hlen2]; exact hj'), ← hlen2] at h2
              have z : j - qs.length = 0 := by
                cases q0 : j - qs.length with
                | zero => rfl
                | succ n =>
                  rw [q0] at h1
                  simp at h1
              rw [z] at h1 h2
              simp only [List.getElem?_cons_zero, Option.some.injEq] at h1 h2
              subst h1 h2
              have of := off D (by rw [hD]; exact fun z => nomatch z)
              exact ⟨pat.beside of, of⟩
    · rintro H' ⟨qs, ps, hD, s2, hps, hlen2, hat⟩
      rw [List.length_map, L.len, List.take_length] at hps
      exact kS ps hps H' D qs (s1.trans s2) ⟨hD, hlen2, fun i q p h1 h2 => (hat i q p h1 h2).1⟩
end
end Pl

namespace Pm
theorem cRun_take {l : List Nat} {i b c0 c : Nat} (h : l[i]? = some b) (hr : cRun (l.take i) c0 = some c) : cRun (l.take (i + 1)) c0 = if 128 ≤ b ∧ b < 192 then some (c * 64 + b - 128) else none := by
  have e : l.take (i + 1) = l.take i ++ [b] := by
    rw [List.take_add_one, h]
    rfl
  rw [e, cRun_snoc, hr]
  rfl
theorem cRun_cat : ∀ (u t : List Nat) (c : Nat), cRun (u ++ t) c = (cRun u c).bind (cRun t)
  | [], t, c => rfl
  | b :: u, t, c => by
    show (if 128 ≤ b ∧ b < 192 then cRun (u ++ t) (c * 64 + b - 128) else none) = (if 128 ≤ b ∧ b < 192 then cRun u (c * 64 + b - 128) else none : Option Nat).bind (cRun t)
    split
    · exact cRun_cat u t _
    · rfl
theorem cRun_fails {l : List Nat} {i c0 : Nat} (h : cRun (l.take i) c0 = none) : cRun l c0 = none := by
  rw [← List.take_append_drop i l, cRun_cat, h]
  rfl
theorem cRun_bound : ∀ (l : List Nat) (c c' : Nat), cRun l c = some c' → c' < (c + 1) * 64 ^ l.length
  | [], c, c', h => by
    cases h
    simp
  | b :: l, c, c', h => by
    have h' : (if 128 ≤ b ∧ b < 192 then cRun l (c * 64 + b - 128) else none) = some c' := h
    by_cases hb : 128 ≤ b ∧ b < 192
    · rw [if_pos hb] at h'
      have ih := cRun_bound l _ _ h'
      have : c * 64 + b - 128 + 1 ≤ (c + 1) * 64 := by omega
      rw [List.length_cons, Nat.pow_succ]
      calc c' < (c * 64 + b - 128 + 1) * 64 ^ l.length := ih
        _ ≤ ((c + 1) * 64) * 64 ^ l.length := Nat.mul_le_mul_right _ this
        _ = (c + 1) * (64 ^ l.length * 64) := by rw [Nat.mul_assoc, Nat.mul_comm 64]
    · rw [if_neg hb] at h'
      cases h'
theorem readSeq_len {l : List Nat} {n c : Nat} (h : readSeq l n = some c) : n ≤ l.length := by
  unfold readSeq at h
  split at h
  · cases h
  · omega
end Pm
namespace Pl
open PySem PySem.Spec PyProof.Rows L2
/-- a tuple of the program's top -/
def TupG (K : PySem.W.Frag) (mg : Str → Option Value) (x : Str) (l : List Nat) : Prop := ∃ t, mg x = some (.ref t) ∧ ∀ H : Hp, SqT K H t (vn l)
theorem pe_gt {X : Cx} {x : Str} {t : Addr} {p : Pos} (h : X.mg x = some (.ref t)) (hg : Gl X x := by rfl) (hd : (x == ("__debug__" : Str)) = false := by decide) : PE X (.Name x p) (tC (.ref t)) := pe_glob hg h rfl hd
/-- lo <= v < hi as a test -/
theorem le_lt_test {lo hi c : Nat} {i : Nat} {σ : L2.St} {H : Hp} {Q : Bool → Hp → Prop} (hi_ : σ[i]? = some (some (.int c))) (q : Q (decide (lo ≤ c ∧ c < hi)) H) :
    tTest (tChain (rI0 fun i j => .bl (decide (i ≤ j))) (rI0 fun i j => .bl (decide (i < j))) (tC (.int lo)) (tVar i) (tC (.int hi))) σ H Q := by
  refine ⟨_, hi_, _, _, rfl, rfl, _, rfl, ?_⟩
  by_cases h : lo ≤ c
  · refine if_true_of (decide_eq_true (by omega)) ⟨_, _, rfl, rfl, _, rfl, ?_⟩
    have e : decide ((c : Int) < (hi : Int)) = decide (lo ≤ c ∧ c < hi) := by
      rw [Bool.eq_iff_iff, decide_eq_true_eq, decide_eq_true_eq]
      omega
    rw [e]
    exact q
  · refine if_false_of (decide_eq_false (by omega)) ⟨_, rfl, ?_⟩
    rw [decide_eq_false (by omega)] at q
    exact q
theorem le_le_test {lo hi c : Nat} {i : Nat} {σ : L2.St} {H : Hp} {Q : Bool → Hp → Prop} (hi_ : σ[i]? = some (some (.int c))) (q : Q (decide (lo ≤ c ∧ c ≤ hi)) H) :
    tTest (tChain (rI0 fun i j => .bl (decide (i ≤ j))) (rI0 fun i j => .bl (decide (i ≤ j))) (tC (.int lo)) (tVar i) (tC (.int hi))) σ H Q := by
  refine ⟨_, hi_, _, _, rfl, rfl, _, rfl, ?_⟩
  by_cases h : lo ≤ c
  · refine if_true_of (decide_eq_true (by omega)) ⟨_, _, rfl, rfl, _, rfl, ?_⟩
    have e : decide ((c : Int) ≤ (hi : Int)) = decide (lo ≤ c ∧ c ≤ hi) := by
      rw [Bool.eq_iff_iff, decide_eq_true_eq, decide_eq_true_eq]
      omega
    rw [e]
    exact q
  · refine if_false_of (decide_eq_false (by omega)) ⟨_, rfl, ?_⟩
    rw [decide_eq_false (by omega)] at q
    exact q
def spSize (CU : Addr) : Sp := fun vs H Q E => ∃ c : Nat, vs = [.int c] ∧ (Pm.seqSize c = none → ∀ d, H d = none → E (.ref CU) (some d) (upd H d (.xd (fAns (-24))))) ∧ (∀ n : Nat, Pm.seqSize c = some n → Q (.int n) H)
def spSeq (K : PySem.W.Frag) (CU : Addr) : Sp := fun vs H Q E => ∃ (a : Addr) (l : List Nat) (n : Nat), vs = [.ref a, .int n] ∧ SqL K H a (vn l) ∧ l.length ≤ 4 ∧ (1 ≤ n ∧ n ≤ 4) ∧ (∀ b, l[0]? = some b → Pm.leads n ≤ b ∧ b < 256) ∧
  (Pm.readSeq l n = none → ∀ (d : Addr) (H' : Hp), Same H H' → H' d = some (.xd (fAns (-24))) → E (.ref CU) (some d) H') ∧ (∀ c : Nat, Pm.readSeq l n = some c → ∀ H', Same H H' → Q (.int c) H')
section
variable {P : Program} {w : World} {K : PySem.W.Frag} {mg : Str → Option Value} {base : Heap} {f : Addr} {fd : FuncData}
theorem scSize : FnScope ["lead"] ["lead"] (defScope sSize) := ⟨rfl, rfl, rfl, by decide +kernel, rfl, by decide +kernel, by decide +kernel⟩
theorem ok_size {CU : Addr} (F : Fun K "sequence_size" "sequence_size" sSize f fd) (TE : Err P w K mg base "NotUtf8" CU (-24)) : FnOk P w K mg base (L2.CX P w) 6 f fd ["lead"] (spSize CU) := by
  refine F.okX scSize (fun vs H Q E h => ?_) (fun cdv A outer s H vs Q E hr h => ?_)
  · obtain ⟨c, rfl, _⟩ := h
    rfl
  · have hr4 : Room 4 _ := hr.mono (by decide)
    refine ⟨_, pss_cons (ps_if (pt_cmpR op_lt (pv 0) pe_int (nomark _)) (pss_one (ps_ret pe_int)) pss_nil)
      (pss_cons (ps_if (pt_chain op_le op_lt pe_int (pv 0) pe_int) (pss_one (ps_ret pe_int)) pss_nil)
      (pss_cons (ps_if (pt_chain op_le op_lt pe_int (pv 0) pe_int) (pss_one (ps_ret pe_int)) pss_nil)
      (pss_cons (ps_if (pt_chain op_le op_lt pe_int (pv 0) pe_int) (pss_one (ps_ret pe_int)) pss_nil)
      (pss_one (ps_refuse rfl TE hr4 (takes_of rfl rfl rfl rfl)))))), ?_⟩
    obtain ⟨c, rfl, kN, kS⟩ := h
    refine ⟨_, rfl, _, _, rfl, rfl, _, rfl, ?_⟩
    by_cases h1 : c < 128
    · exact if_true_of (decide_eq_true (by omega)) (kS 1 (Pm.sz1 h1))
    · refine if_false_of (decide_eq_false (by omega)) ?_
      refine le_lt_test (lo := 192) (hi := 224) rfl ?_
      by_cases h2 : 192 ≤ c ∧ c < 224
      · exact if_true_of (decide_eq_true h2) (kS 2 (Pm.sz2 h2))
      · refine if_false_of (decide_eq_false h2) ?_
        refine le_lt_test (lo := 224) (hi := 240) rfl ?_
        by_cases h3 : 224 ≤ c ∧ c < 240
        · exact if_true_of (decide_eq_true h3) (kS 3 (Pm.sz3 h3))
        · refine if_false_of (decide_eq_false h3) ?_
          refine le_lt_test (lo := 240) (hi := 248) rfl ?_
          by_cases h4 : 240 ≤ c ∧ c < 248
          · exact if_true_of (decide_eq_true h4) (kS 4 (Pm.sz4 h4))
          · exact if_false_of (decide_eq_false h4) (kN (Pm.sz0 (by omega)))
theorem scSeq : FnScope ["octets", "size", "code", "octet"] ["octets", "size"] (defScope sSeq) := ⟨rfl, rfl, rfl, by decide +kernel, rfl, by decide +kernel, by decide +kernel⟩
theorem cut_tail (l : List Nat) : cutV (vn l) (some ((1 : Nat) : Int)) none = vn (l.drop 1) := by
  unfold cutV
  rw [HT.sIx_nat, HT.sIx_none, vn_len]
  unfold vn
  cases l with
  | nil => rfl
  | cons a r =>
    have e : min 1 (a :: r).length = 1 := by
      rw [List.length_cons]
      omega
    rw [e, List.map_drop]
    apply List.take_of_length_le
    rw [List.length_drop, List.length_map]
    exact Nat.le_refl _
theorem tup5 {l : List Nat} {n v : Nat} (h : l[n]? = some v) : atI (vn l) (n : Int) = some (.int v) := atI_nat (vn_get h)
theorem leads_at {n : Nat} (h : n ≤ 4) : ([0, 0, 192, 224, 240] : List Nat)[n]? = some (Pm.leads n) := by
  match n, h with
  | 0, _ => rfl
  | 1, _ => rfl
  | 2, _ => rfl
  | 3, _ => rfl
  | 4, _ => rfl
theorem smallest_at {n : Nat} (h : n ≤ 4) : ([0, 0, 128, 2048, 65536] : List Nat)[n]? = some (Pm.smallest n) := by
  match n, h with
  | 0, _ => rfl
  | 1, _ => rfl
  | 2, _ => rfl
  | 3, _ => rfl
  | 4, _ => rfl
theorem ok_seq {CU : Addr} (F : Fun K "read_sequence" "read_sequence" sSeq f fd) (TE : Err P w K mg base "NotUtf8" CU (-24)) (ml : mg "len" = none) (DC : Def P w K mg base CX0 1 "is_character" ["code"] (spFlag Kh450.isScalar)) (TL : TupG K mg "LEADS" [0, 0, 192, 224, 240]) (TS : TupG K mg "SMALLEST" [0, 0, 128, 2048, 65536]) :
    FnOk P w K mg base (L2.CX P w) 6 f fd ["octets", "size"] (spSeq K CU) := by
  obtain ⟨tl, hl, sl⟩ := TL
  obtain ⟨tsm, hs, ss⟩ := TS
  refine F.okX scSeq (fun vs H Q E h => ?_) (fun cdv A outer s H vs Q E hr h => ?_)
  · obtain ⟨a, l, n, rfl, _⟩ := h
    rfl
  · have hr4 : Room 4 _ := hr.mono (by decide)
    have hr1 : Room 1 _ := hr.mono (by decide)
    refine ⟨_, pss_cons (ps_if (pt_cmpR op_lt (pe_callB call_len_seq (by rfl) ml PySem.boot_len (pa_cons (pv 0) pa_nil)) (pv 1) (nomark _)) (pss_one (ps_refuse rfl TE hr4 (takes_of rfl rfl rfl rfl))) pss_nil)
      (pss_cons (ps_set (i := 2) scSeq.nd rfl (Or.inl rfl) (pe_op op_sub (pe_ix ix_list (pv 0) pe_int (fun _ _ => rfl)) (pe_ix ix_tup (pe_gt hl) (pv 1) (fun _ _ => rfl))))
      (pss_cons (ps_for (passes_of rfl) rfl (pi_list (pe_slice sl_list (pv 0) (po_some pe_int) po_none)) (pg_name (i := 3) scSeq.nd rfl (Or.inl rfl))
        (pss_cons (ps_if (pt_not (pt_chain op_le op_lt pe_int (pv 3) pe_int)) (pss_one (ps_refuse rfl TE hr4 (takes_of rfl rfl rfl rfl))) pss_nil)
        (pss_one (ps_set (i := 2) scSeq.nd rfl (Or.inl rfl) (pe_op op_sub (pe_op op_add (pe_op op_mul (pv 2) pe_int) (pv 3)) pe_int)))))
      (pss_cons (ps_if (PW.pt (pw_or (pt_cmpR op_lt (pv 2) (pe_ix ix_tup (pe_gt hs) (pv 1) (fun _ _ => rfl)) (nomark _)) (pw_or1 (pt_not (pt_val (pe_d DC hr1 (by exact (pa_cons (pv 2) pa_nil))))))))
        (pss_one (ps_refuse rfl TE hr4 (takes_of rfl rfl rfl rfl))) pss_nil)
      (pss_one (ps_ret (pv 2)))))), ?_⟩
    obtain ⟨a, l, n, rfl, hS, hlen, ⟨hn1, hn4⟩, hb, kN, kS⟩ := h
    have refuse : Pm.readSeq l n = none → ∀ H1, Same H H1 → ∀ d, H1 d = none → E (.ref CU) (some d) (upd H1 d (.xd (fAns (-24)))) := fun e H1 s1 d nd => kN e d _ (s1.new nd) upd_same
    refine ⟨_, rfl, a, _, rfl, .inl hS, _, rfl, _, _, rfl, rfl, _, rfl, ?_⟩
    rw [vn_len]
    by_cases hshort : l.length < n
    · refine if_true_of (decide_eq_true (by omega)) (refuse ?_ H (Same.refl H))
      unfold Pm.readSeq
      rw [if_pos hshort]
    · refine if_false_of (decide_eq_false (by omega)) ?_
      cases l with
      | nil =>
        simp at hshort
        omega
      | cons b r =>
        obtain ⟨hlead, hb256⟩ := hb b rfl
        refine ⟨_, rfl, a, _, 0, _, rfl, rfl, hS, (atI_nat (j := 0) rfl), _, rfl, tl, _, _, _, rfl, rfl, sl H, tup5 (leads_at hn4), _, _, rfl, rfl, ?_⟩
        refine ⟨_, rfl, _, rfl, a, _, rfl, hS, fun p np => ?_⟩
        have s1 : Same H (upd H p (.lst (cutV (vn (b :: r)) (some 1) none))) := (Same.refl H).new np
        have e1 : cutV (vn (b :: r)) (some (1 : Int)) none = vn r := cut_tail (b :: r)
        rw [e1] at s1 ⊢
        have hc0 : ((b : Int) - (Pm.leads n : Int)) = ((b - Pm.leads n : Nat) : Int) := by omega
        have read_ : Pm.readSeq (b :: r) n = (Pm.cRun r (b - Pm.leads n)).bind fun c => if c < Pm.smallest n ∨ (55296 ≤ c ∧ c ≤ 57343) ∨ 1114111 < c then none else some c := by
          unfold Pm.readSeq
          rw [if_neg hshort]
        have sq : SqL K (upd H p (.lst (vn r))) p (vn r) := SqL.of upd_same
        refine ⟨p, rfl, ⟨_, sq⟩, for_list (K := K) (a := p) (xs := vn r)
          (fun i σ H' => ∃ (c : Nat) (x : Option V), σ = [some (.ref a), some (.int n), some (.int c), x] ∧ H' = upd H p (.lst (vn r)) ∧ Pm.cRun (r.take i) (b - Pm.leads n) = some c)
          ⟨b - Pm.leads n, none, ?_, rfl, rfl⟩ (fun i σ H' _ ⟨_, _, _, e, _⟩ => by rw [e]; exact sq) ?_ ?_⟩
        · show [some (V.ref a), some (.int n), some (.int ((b : Int) - (Pm.leads n : Int))), none] = _
          rw [hc0]
        · rintro i x σ H' hi ⟨c, x3, rfl, rfl, hrun⟩
          obtain ⟨o, ho, rfl⟩ := vn_of hi
          have more := Pm.cRun_take ho hrun
          refine le_lt_test (lo := 128) (hi := 192) rfl ?_
          by_cases hcont : 128 ≤ o ∧ o < 192
          · rw [if_pos hcont] at more
            rw [decide_eq_true hcont]
            have bound := Pm.cRun_bound _ _ _ hrun
            have len3 : (r.take i).length ≤ 3 := by
              rw [List.length_take]
              simp only [List.length_cons] at hlen
              omega
            have pw3 : 64 ^ (r.take i).length ≤ 64 ^ 3 := Nat.pow_le_pow_right (by decide) len3
            have small : c < 256 * 64 ^ 3 := Nat.lt_of_lt_of_le bound (Nat.mul_le_mul (by omega) pw3)
            refine iteF ⟨_, rfl, _, _, rfl, rfl, .inl ⟨?_, ?_⟩, _, rfl, _, _, rfl, rfl, _, _, rfl, rfl, ?_⟩
            · have : (0 : Int) ≤ (c : Int) := Int.natCast_nonneg c
              omega
            · have : c < 67108864 := small
              omega
            · refine ⟨c * 64 + o - 128, some (.int o), ?_, rfl, more⟩
              have e : ((c : Int) * 64 + (o : Int) - 128) = ((c * 64 + o - 128 : Nat) : Int) := by omega
              show [some (V.ref a), some (.int n), some (.int ((c : Int) * 64 + (o : Int) - 128)), some (.int o)] = _
              rw [e]
          · rw [if_neg hcont] at more
            rw [decide_eq_false hcont]
            refine iteT (refuse ?_ _ s1)
            rw [read_, Pm.cRun_fails more]
            rfl
        · rintro σ H' ⟨c, x3, rfl, rfl, hrun⟩
          rw [vn_len, List.take_length] at hrun
          rw [hrun] at read_
          have read2 : Pm.readSeq (b :: r) n = if c < Pm.smallest n ∨ (55296 ≤ c ∧ c ≤ 57343) ∨ 1114111 < c then none else some c := read_
          refine ⟨_, rfl, _, rfl, tsm, _, _, _, rfl, rfl, ss _, tup5 (smallest_at hn4), _, _, rfl, rfl, _, rfl, ?_⟩
          by_cases t1 : c < Pm.smallest n
          · refine if_true_of (decide_eq_true (by omega)) (iteT (refuse ?_ _ s1))
            rw [read2, if_pos (.inl t1)]
          · refine if_false_of (decide_eq_false (by omega)) ⟨_, rfl, c, rfl, fun H2 s2 => ⟨_, rfl, ?_⟩⟩
            cases hsc : Kh450.isScalar c with
            | false =>
              refine iteT (refuse ?_ _ (s1.trans s2))
              have z : (55296 ≤ c ∧ c ≤ 57343) ∨ 1114111 < c := by
                unfold Kh450.isScalar at hsc
                simp at hsc
                omega
              rw [read2, if_pos (.inr z)]
            | true =>
              refine iteF ⟨_, rfl, kS c ?_ _ (s1.trans s2)⟩
              have z : ¬((55296 ≤ c ∧ c ≤ 57343) ∨ 1114111 < c) := by
                unfold Kh450.isScalar at hsc
                simp at hsc
                omega
              rw [read2, if_neg (fun q => q.elim t1 z)]
end
end Pl

namespace Pl
open PySem PySem.Spec PyProof.Rows L2
def spRead (K : PySem.W.Frag) (CU : Addr) : Sp := fun vs H Q E => ∃ (a : Addr) (bs : List Nat), vs = [.ref a] ∧ SqL K H a (vn bs) ∧ bs.length ≤ 600 ∧ (∀ b ∈ bs, b < 256) ∧
  (Kh450.decodeAll bs = none → ∀ (d : Addr) (H' : Hp), Same H H' → H' d = some (.xd (fAns (-24))) → E (.ref CU) (some d) H') ∧
  (∀ t, Kh450.decodeAll bs = some t → ∀ (H' : Hp) (p : Addr), Same H H' → H' p = some (.lst (vn t)) → Q (.ref p) H')
theorem cut_part (l : List Nat) (i n : Nat) (h : i ≤ l.length) : cutV (vn l) (some (i : Int)) (some ((i + n : Nat) : Int)) = vn ((l.drop i).take n) := by
  unfold cutV
  rw [HT.sIx_nat, HT.sIx_nat, vn_len]
  unfold vn
  rw [Nat.min_eq_left h, List.map_take, List.map_drop]
  apply List.ext_getElem?
  intro k
  rw [List.getElem?_take, List.getElem?_take, List.getElem?_drop]
  by_cases h1 : k < n
  · rw [if_pos h1]
    by_cases h2 : k < min (i + n) l.length - i
    · rw [if_pos h2]
    · rw [if_neg h2, List.getElem?_eq_none]
      rw [List.length_map]
      omega
  · rw [if_neg h1, if_neg (by omega)]
section
variable {P : Program} {w : World} {K : PySem.W.Frag} {mg : Str → Option Value} {base : Heap} {f : Addr} {fd : FuncData}
theorem scRead : FnScope ["octets", "text", "at", "size"] ["octets"] (defScope sRead) := ⟨rfl, rfl, rfl, by decide +kernel, rfl, by decide +kernel, by decide +kernel⟩
/-- how far the loop is -/
def placeOf (σ : L2.St) : Nat := match σ[2]? with
  | some (some (V.int i)) => i.toNat
  | _ => 0
theorem ok_read {CU : Addr} (F : Fun K "read_utf8" "read_utf8" sRead f fd) (ml : mg "len" = none) (DZ : Def P w K mg base (L2.CX P w) 6 "sequence_size" ["lead"] (spSize CU)) (DQ : Def P w K mg base (L2.CX P w) 6 "read_sequence" ["octets", "size"] (spSeq K CU)) :
    FnOk P w K mg base (L2.CX P w) 10 f fd ["octets"] (spRead K CU) := by
  refine F.okX scRead (fun vs H Q E h => ?_) (fun cdv A outer s H vs Q E hr h => ?_)
  · obtain ⟨a, l, rfl, _⟩ := h
    rfl
  · have hr6 : Room 6 _ := hr.mono (by decide)
    refine ⟨_, pss_cons (ps_set (i := 1) scRead.nd rfl (Or.inl rfl) (pe_lst pa_nil))
      (pss_cons (ps_set (i := 2) scRead.nd rfl (Or.inl rfl) pe_int)
      (pss_cons (ps_while (passes_of rfl) (pt_cmpR op_lt (pv 2) (pe_callB call_len_seq (by rfl) ml PySem.boot_len (pa_cons (pv 0) pa_nil)) (nomark _))
        (pss_cons (ps_set (i := 3) scRead.nd rfl (Or.inl rfl) (pe_dX DZ hr6 (takes_of rfl rfl rfl rfl) (by exact (pa_cons (pe_ix ix_list (pv 0) (pv 2) (fun _ _ => rfl)) pa_nil))))
        (pss_cons (ps_expr (pe_bm PySem.F.plainAttrs_list PySem.F.slot_list_append PySem.F.type_list_append mt_append (pv 1)
          (pa_cons (pe_dX DQ hr6 (takes_of rfl rfl rfl rfl) (by exact (pa_cons (pe_slice sl_list (pv 0) (po_some (pv 2)) (po_some (pe_op op_add (pv 2) (pv 3)))) (pa_cons (pv 3) pa_nil)))) pa_nil)))
        (pss_one (ps_aug (i := 2) scRead.nd rfl (Or.inl rfl) (pv 3) ip_add)))))
      (pss_one (ps_ret (pv 1))))), ?_⟩
    obtain ⟨a, bs, rfl, hS, hlen, hby, kN, kS⟩ := h
    refine ⟨Nat.zero_le _, fun pt npt => ?_⟩
    have s1 : Same H (upd H pt (.lst [])) := (Same.refl H).new npt
    have refuse : Kh450.decodeAll bs = none → ∀ H1, Same H H1 → ∀ d, H1 d = none → E (.ref CU) (some d) (upd H1 d (.xd (fAns (-24)))) := fun e H1 s1 d nd => kN e d _ (s1.new nd) upd_same
    refine while_by (fun σ H' => ∃ (n : Nat) (done : List Nat) (x : Option V), σ = [some (.ref a), some (.ref pt), some (.int n), x] ∧ Same H H' ∧ H' pt = some (.lst (vn done)) ∧ n ≤ bs.length ∧ done.length ≤ n ∧
        Kh450.decodeAll bs = (Kh450.decodeAll (bs.drop n)).map fun t => done ++ t)
      (fun σ H' => bs.length - placeOf σ) ⟨0, [], none, rfl, s1, upd_same, Nat.zero_le _, Nat.le_refl _, ?_⟩ ?_ ?_
    · rw [List.drop_zero]
      cases Kh450.decodeAll bs <;> rfl
    · rintro σ H' ⟨n, done, x, rfl, s2, hpt, hn, hdl, hdec⟩
      refine ⟨_, rfl, _, rfl, a, _, rfl, .inl (s2.seq hS), _, _, rfl, rfl, _, rfl, ?_⟩
      rw [vn_len]
      by_cases hlt : n < bs.length
      · refine if_true_of (decide_eq_true (by omega)) ?_
        have hget := List.getElem?_eq_getElem hlt
        have hmem : bs[n] ∈ bs := List.getElem_mem hlt
        have hdrop : bs.drop n = bs[n] :: bs.drop (n + 1) := List.drop_eq_getElem_cons hlt
        generalize bs[n] = b at hget hmem hdrop
        rw [hdrop, Pm.all_step] at hdec
        have hb := hby b hmem
        refine ⟨_, rfl, _, rfl, a, _, n, _, rfl, rfl, s2.seq hS, atI_nat (vn_get hget), ?_⟩
        refine ⟨b, rfl, fun e d nd => ?_, fun m e => ?_⟩
        · rw [e] at hdec
          exact refuse hdec H' s2 d nd
        · rw [e] at hdec
          obtain ⟨hm, hlead⟩ := Pm.seqSize_cases e
          have hm4 : 1 ≤ m ∧ m ≤ 4 := by omega
          rw [← hdrop] at hdec
          have hcut : cutV (vn bs) (some (n : Int)) (some ((n : Int) + (m : Int))) = vn ((bs.drop n).take m) := by
            have q := cut_part bs n m hn
            rw [← q]
            congr 2
          refine ⟨_, rfl, .inl ⟨rfl, _, SqL.of hpt⟩, _, rfl, _, rfl, n, rfl, _, rfl, _, rfl, _, _, rfl, rfl, _, rfl, a, _, rfl, s2.seq hS, fun p np => ?_⟩
          have hp : upd H' p (.lst (cutV (vn bs) (some (n : Int)) (some ((n : Int) + (m : Int))))) p = some (.lst (vn ((bs.drop n).take m))) := by
            rw [upd_same, hcut]
          have s3 : Same H' (upd H' p (.lst (cutV (vn bs) (some (n : Int)) (some ((n : Int) + (m : Int)))))) := (Same.refl H').new np
          generalize upd H' p (.lst (cutV (vn bs) (some (n : Int)) (some ((n : Int) + (m : Int))))) = H3 at hp s3
          have hlead0 : ∀ b0, ((bs.drop n).take m)[0]? = some b0 → Pm.leads m ≤ b0 ∧ b0 < 256 := fun b0 e0 => by
            rw [List.getElem?_take, if_pos (by omega), List.getElem?_drop, Nat.add_zero, hget] at e0
            cases e0
            exact ⟨hlead, hb⟩
          refine ⟨_, rfl, p, (bs.drop n).take m, m, rfl, SqL.of hp, (by rw [List.length_take]; omega), hm4, hlead0, fun e2 d H4 s4 hd => ?_, fun c e2 H4 s4 => ?_⟩
          · simp only [e2] at hdec
            exact kN hdec d H4 ((s2.trans s3).trans s4) hd
          · simp only [e2] at hdec
            have hpt4 := s4 _ _ (s3 _ _ hpt)
            have hfit := Pm.readSeq_len e2
            rw [List.length_take, List.length_drop] at hfit
            refine ⟨pt, _, _, rfl, rfl, hpt4, small1000 (by rw [vn_len]; omega), ?_⟩
            refine ⟨_, rfl, _, rfl, _, _, rfl, rfl, ?_⟩
            refine ⟨⟨n + m, done ++ [c], some (.int m), rfl, ((s2.trans s3).trans s4).own npt, ?_, (by omega), (by simp; omega), ?_⟩, ?_⟩
            · rw [upd_same, vn_snoc]
            · rw [hdec, List.drop_drop]
              cases Kh450.decodeAll (bs.drop (n + m)) with
              | none => rfl
              | some t =>
                show some (done ++ c :: t) = some (done ++ [c] ++ t)
                rw [List.append_assoc]
                rfl
            · show bs.length - ((n : Int) + (m : Int)).toNat < bs.length - (n : Int).toNat
              omega
      · refine if_false_of (decide_eq_false (by omega)) ?_
        have en : bs.drop n = [] := List.drop_eq_nil_iff.mpr (by omega)
        rw [en, Pm.all_nil] at hdec
        have hdec2 : Kh450.decodeAll bs = some done := by
          rw [hdec]
          show some (done ++ []) = some done
          rw [List.append_nil]
        exact ⟨_, rfl, kS done hdec2 H' pt s2 hpt⟩
    · rintro σ H' Q1 Q2 hq ⟨v, e, v2, e2, p, ys, ep, sq, i, j, ei, ej, k, ek, q⟩
      exact ⟨v, e, v2, e2, p, ys, ep, sq, i, j, ei, ej, k, ek, hq _ _ q⟩
end
end Pl

namespace Pm
open Kh455 (raiseAt Pattern)
/-- one pattern, at every place -/
def layAll (d : List Nat) (p : Pattern) (L : List Nat) : List Nat := (List.range (d.length + 1 - p.letters.length)).foldl (fun L i => lay d p i L) L
theorem levelsPy_eq (ps : List Pattern) (d : List Nat) : levelsPy ps d = ps.foldl (fun L p => layAll d p L) (List.replicate (d.length + 1) 0) := rfl
theorem fold_lay_len (d : List Nat) (p : Pattern) : ∀ (l : List Nat) (L : List Nat), (l.foldl (fun L i => lay d p i L) L).length = L.length
  | [], L => rfl
  | i :: l, L => by
    rw [List.foldl_cons, fold_lay_len d p l, lay_len]
theorem fold_all_len (d : List Nat) : ∀ (ps : List Pattern) (L : List Nat), (ps.foldl (fun L p => layAll d p L) L).length = L.length
  | [], L => rfl
  | p :: ps, L => by
    rw [List.foldl_cons, fold_all_len d ps]
    exact fold_lay_len d p _ L
theorem read_letters : ∀ (w : List Nat) (p : Pattern), Kh455.readPattern w = some p → p.letters.length ≤ w.length := fun w p h => by
  have e := pRun_all w
  rw [h] at e
  cases q : pRun w ([], [0], false) with
  | none =>
    rw [q] at e
    cases e
  | some s =>
    rw [q] at e
    have l := pRun_len w _ s q
    simp only [Option.map_some, Option.some.injEq, Prod.mk.injEq] at e
    rw [← e.1]
    simpa using l.1
theorem pats_mem : ∀ (ws : List (List Nat)) (ps : List Pattern), pats ws = some ps → ∀ p ∈ ps, ∃ w ∈ ws, patOf w = some p
  | [], ps, h, p, hp => by
    cases h
    cases hp
  | w :: r, ps, h, p, hp => by
    have h' : (match patOf w, pats r with | some p, some l => some (p :: l) | _, _ => none) = some ps := h
    cases e : patOf w with
    | none =>
      rw [e] at h'
      cases h'
    | some q =>
      cases e2 : pats r with
      | none =>
        rw [e, e2] at h'
        cases h'
      | some l =>
        rw [e, e2] at h'
        cases h'
        rcases List.mem_cons.mp hp with z | z
        · exact ⟨w, List.mem_cons_self, by rw [e, z]⟩
        · obtain ⟨v, hv, ev⟩ := pats_mem r l e2 p z
          exact ⟨v, List.mem_cons_of_mem _ hv, ev⟩
/-- what is known of the patterns of a text -/
structure Good (n : Nat) (p : Pattern) : Prop where
  some_ : p.letters ≠ []
  lv : p.levels.length = p.letters.length + 1
  short : p.letters.length ≤ n
theorem pats_good {t : List Nat} {ps : List Pattern} (h : pats (Kh455.wordsOf t) = some ps) : ∀ p ∈ ps, Good t.length p := fun p hp => by
  obtain ⟨h1, h2⟩ := pats_letters _ _ h p hp
  obtain ⟨w, hw, e⟩ := pats_mem _ _ h p hp
  refine ⟨h1, h2, ?_⟩
  have hl := (words_short t).2 w hw
  unfold patOf at e
  cases e3 : Kh455.readPattern w with
  | none =>
    rw [e3] at e
    cases e
  | some p' =>
    rw [e3] at e
    simp only at e
    by_cases h4 : p'.letters.isEmpty = true
    · rw [if_pos h4] at e
      cases e
    · rw [if_neg h4] at e
      cases e
      exact Nat.le_trans (read_letters w p e3) hl
end Pm
namespace Pl
open PySem PySem.Spec PyProof.Rows L2
/-! ### == of lists of numbers -/
theorem dp_all (K : PySem.W.Frag) (H : Hp) : ∀ l : List Nat, DpAll K H (vn l) (l.map fun n : Nat => PyData.int n)
  | [] => .nil
  | n :: l => .cons (.int _) (dp_all K H l)
theorem dp_list {K : PySem.W.Frag} {H : Hp} {a : Addr} {l : List Nat} (h : SqL K H a (vn l)) : Dp K H (.ref a) (.list (l.map fun n : Nat => PyData.int n)) := .lst h (dp_all K H l)
theorem eqv_ints : ∀ l m : List Nat, PyData.eqvAll (l.map fun n : Nat => PyData.int n) (m.map fun n : Nat => PyData.int n) = decide (l = m)
  | [], [] => rfl
  | [], _ :: _ => by simp [PyData.eqvAll]
  | _ :: _, [] => by simp [PyData.eqvAll]
  | a :: l, b :: m => by
    show (((a : Int) == (b : Int)) && PyData.eqvAll _ _) = _
    rw [eqv_ints l m, Bool.eq_iff_iff]
    simp only [Bool.and_eq_true, beq_iff_eq, decide_eq_true_eq, List.cons.injEq]
    constructor
    · rintro ⟨h1, h2⟩
      exact ⟨by omega, h2⟩
    · rintro ⟨h1, h2⟩
      exact ⟨by omega, h2⟩
theorem eqv_list (l m : List Nat) : PyData.eqv (.list (l.map fun n : Nat => PyData.int n)) (.list (m.map fun n : Nat => PyData.int n)) = decide (l = m) := eqv_ints l m
theorem lay_ints : ∀ l : List Nat, PyData.canLayAll0 (l.map fun n : Nat => PyData.int n) = true ∧ PyData.depthAll (l.map fun n : Nat => PyData.int n) ≤ 1
  | [] => ⟨rfl, by show PyData.depthAll [] ≤ 1; unfold PyData.depthAll; exact Nat.zero_le _⟩
  | a :: l => by
    obtain ⟨h1, h2⟩ := lay_ints l
    constructor
    · show (PyData.canLay0 (.int a) && PyData.canLayAll0 _) = true
      rw [h1]
      rfl
    · show PyData.depthAll (PyData.int a :: _) ≤ 1
      unfold PyData.depthAll
      have e : PyData.depth (.int a) = 0 := by
        unfold PyData.depth
        rfl
      rw [e]
      omega
theorem shaped_list (l : List Nat) : SeqAt.shaped (.list (l.map fun n : Nat => PyData.int n)) = true := by
  obtain ⟨h1, h2⟩ := lay_ints l
  have e : (PyData.list (l.map fun n : Nat => PyData.int n)).depth = PyData.depthAll (l.map fun n : Nat => PyData.int n) + 1 := by
    conv => lhs; unfold PyData.depth
  show (PyData.canLayAll0 _ && decide ((PyData.list _).depth ≤ 64)) = true
  rw [h1, e, decide_eq_true (by omega)]
  rfl
end Pl

namespace Pl
open PySem PySem.Spec PyProof.Rows L2
def spLev (K : PySem.W.Frag) (C : Addr) : Sp := fun vs H Q _ => ∃ (l d : Addr) (qs : List P4) (ps : List Kh455.Pattern) (dt : List Nat), vs = [.ref l, .ref d] ∧ Pats C H l qs ps ∧ (∀ p ∈ ps, Pm.Good 900 p) ∧ SqL K H d (vn dt) ∧ dt.length ≤ 900 ∧
  ∀ (H' : Hp) (p : Addr), Same H H' → H' p = some (.lst (vn (Pm.levelsPy ps dt))) → Q (.ref p) H'
structure LevAt (H0 H : Hp) (pv : Addr) (L : List Nat) : Prop where
  same : Same H0 H
  v0 : H0 pv = none
  lv : H pv = some (.lst (vn L))
theorem LevAt.later {H0 H H' : Hp} {pv : Addr} {L : List Nat} (x : LevAt H0 H pv L) (s : Same H H') : LevAt H0 H' pv L := ⟨x.same.trans s, x.v0, s _ _ x.lv⟩
theorem LevAt.put {H0 H : Hp} {pv : Addr} {L M : List Nat} (x : LevAt H0 H pv L) : LevAt H0 (upd H pv (.lst (vn M))) pv M := ⟨x.same.own x.v0, x.v0, upd_same⟩
theorem ixN_at {n j : Nat} (h : j < n) : ixN n (j : Int) = some j := by
  unfold ixN
  rw [if_pos (by omega), if_pos (by omega), Int.toNat_natCast]
theorem vn_zeros (n : Nat) : (List.replicate n [V.int 0]).flatten = vn (List.replicate n 0) := by
  induction n with
  | zero => rfl
  | succ n ih =>
    rw [List.replicate_succ, List.flatten_cons, ih, List.replicate_succ]
    rfl
theorem fPat_lt (la va : Addr) : (fPat la va).lookup ("letters" : Str) = some (.ref la) := by
  have e : (("letters" : Str) == ("letters" : Str)) = true := beq_self_eq_true _
  simp only [fPat, List.lookup, e]
theorem fPat_lv (la va : Addr) : (fPat la va).lookup ("levels" : Str) = some (.ref va) := by
  have e : (("levels" : Str) == ("letters" : Str)) = false := by decide +kernel
  have e2 : (("levels" : Str) == ("levels" : Str)) = true := beq_self_eq_true _
  simp only [fPat, List.lookup, e, e2]
section
variable {P : Program} {w : World} {K : PySem.W.Frag} {mg : Str → Option Value} {base : Heap} {f : Addr} {fd : FuncData}
theorem scLev : FnScope ["patterns", "dotted", "levels", "pattern", "size", "start", "k"] ["patterns", "dotted"] (defScope sLev) := ⟨rfl, rfl, rfl, by decide +kernel, rfl, by decide +kernel, by decide +kernel⟩
theorem zero_add_cast (i : Nat) : (0 : Int) + (i : Int) = (i : Int) := Int.zero_add _
theorem max_cast (x y : Nat) : (if (y : Int) > (x : Int) then (y : Int) else (x : Int)) = ((max x y : Nat) : Int) := by
  by_cases h : (y : Int) > (x : Int)
  · rw [if_pos h]
    omega
  · rw [if_neg h]
    omega
theorem ok_lev {C : Addr} (F : Fun K "levels_in" "levels_in" sLev f fd) (T : TPat K mg C) (ml : mg "len" = none) (mr : mg "range" = none) (mm : mg "max" = none) : FnOk P w K mg base CX0 2 f fd ["patterns", "dotted"] (spLev K C) := by
  refine F.ok scLev (fun vs H Q E h => ?_) (fun cdv A outer s H vs Q E hr h => ?_)
  · obtain ⟨l, d, qs, ps, dt, rfl, _⟩ := h
    rfl
  · refine ⟨_, pss_cons (ps_set (i := 2) scLev.nd rfl (Or.inl rfl) (pe_op op_rep (pe_lst (pa_cons pe_int pa_nil)) (pe_op op_add (pe_callB call_len_seq (by rfl) ml PySem.boot_len (pa_cons (pv 1) pa_nil)) pe_int)))
      (pss_cons (ps_for PassesOwn.never rfl (pi_list (pv 0)) (pg_name (i := 3) scLev.nd rfl (Or.inl rfl))
        (pss_cons (ps_set (i := 4) scLev.nd rfl (Or.inl rfl) (pe_callB call_len_seq (by rfl) ml PySem.boot_len (pa_cons (pe_fld (pv 3) rfl) pa_nil)))
        (pss_one (ps_for PassesOwn.never rfl (pi_range1 rfl mr (pa_cons (pe_op op_add (pe_op op_sub (pe_callB call_len_seq (by rfl) ml PySem.boot_len (pa_cons (pv 1) pa_nil)) (pv 4)) pe_int) pa_nil)) (pg_name (i := 5) scLev.nd rfl (Or.inl rfl))
          (pss_one (ps_if (pt_cmpR (op_eqD hr.units) (pe_slice sl_list (pv 1) (po_some (pv 5)) (po_some (pe_op op_add (pv 5) (pv 4)))) (pe_fld (pv 3) rfl) (nomark _))
            (pss_one (ps_for PassesOwn.never rfl (pi_range1 rfl mr (pa_cons (pe_op op_add (pv 4) pe_int) pa_nil)) (pg_name (i := 6) scLev.nd rfl (Or.inl rfl))
              (pss_one (ps_asg (pe_callB (call_max2 rfl) (by rfl) mm (by decide +kernel) (pa_cons (pe_ix ix_list (pv 2) (pe_op op_add (pv 5) (pv 6)) (fun _ _ => rfl)) (pa_cons (pe_ix ix_list (pe_fld (pv 3) rfl) (pv 6) (fun _ _ => rfl)) pa_nil)))
                (pg_sub (pv 2) (pe_op op_add (pv 5) (pv 6)) set_list)))))
            pss_nil))))))
      (pss_one (ps_ret (pv 2)))), ?_⟩
    obtain ⟨l, d, qs, ps, dt, rfl, hP, hgood, hd, hdl, k⟩ := h
    have small : 1000000 ≤ sizeLine := by decide
    refine ⟨(by show 1 ≤ sizeLine; decide), fun p0 np0 => ?_⟩
    have s0 : Same H (upd H p0 (.lst [.int 0])) := (Same.refl H).new np0
    refine ⟨_, rfl, d, _, rfl, .inl (s0.seq hd), _, _, rfl, rfl, p0, _, _, rfl, rfl, upd_same, ?_, ?_, ?_, fun pv npv => ?_⟩
    · have : (0 : Int) ≤ ((vn dt).length : Int) := Int.natCast_nonneg _
      omega
    · rw [vn_len]
      omega
    · rw [vn_len]
      show 1 * ((dt.length : Int) + 1).toNat ≤ sizeLine
      omega
    · have en : ((vn dt).length : Int) + 1 = ((dt.length + 1 : Nat) : Int) := by
        rw [vn_len]
        rfl
      have hpv : H pv = none := s0.free npv
      have L0 : LevAt H (upd (upd H p0 (.lst [.int 0])) pv (.lst (List.replicate (((vn dt).length : Int) + 1).toNat [V.int 0]).flatten)) pv (List.replicate (dt.length + 1) 0) := by
        refine ⟨s0.new npv, hpv, ?_⟩
        rw [upd_same, en, Int.toNat_natCast, vn_zeros]
      refine ⟨_, rfl, l, rfl, ⟨_, L0.same.seq (SqL.of hP.lst)⟩, for_list (K := K) (a := l) (xs := qs.map fun q : P4 => V.ref q.1)
        (fun i σ H' => ∃ x3 x4 x5 x6, σ = [some (.ref l), some (.ref d), some (.ref pv), x3, x4, x5, x6] ∧ LevAt H H' pv ((ps.take i).foldl (fun L p => Pm.layAll dt p L) (List.replicate (dt.length + 1) 0)))
        ⟨none, none, none, none, rfl, L0⟩ (fun i σ H' _ ⟨_, _, _, _, _, L⟩ => L.same.seq (SqL.of hP.lst)) ?_ ?_⟩
      · rintro i x σ H' hi ⟨x3, x4, x5, x6, rfl, L⟩
        rw [List.getElem?_map] at hi
        cases eq : qs[i]? with
        | none =>
          rw [eq] at hi
          cases hi
        | some q =>
          rw [eq] at hi
          cases hi
          have hip : i < ps.length := by
            rw [← hP.len]
            exact (List.getElem?_eq_some_iff.mp eq).1
          have hp := List.getElem?_eq_getElem hip
          have good := hgood _ (List.getElem_mem hip)
          have pat := hP.at_ i q _ eq hp
          have takes : (ps.take (i + 1)).foldl (fun L p => Pm.layAll dt p L) (List.replicate (dt.length + 1) 0) = Pm.layAll dt ps[i] ((ps.take i).foldl (fun L p => Pm.layAll dt p L) (List.replicate (dt.length + 1) 0)) := by
            rw [take_more hp, List.foldl_append]
            rfl
          have len0 : ((ps.take i).foldl (fun L p => Pm.layAll dt p L) (List.replicate (dt.length + 1) 0)).length = dt.length + 1 := by
            rw [Pm.fold_all_len, List.length_replicate]
          generalize ps[i] = p at *
          generalize (ps.take i).foldl (fun L p => Pm.layAll dt p L) (List.replicate (dt.length + 1) 0) = L1 at *
          have hsz := good.short
          have hsome : 0 < p.letters.length := List.length_pos_iff.mpr good.some_
          have pat' := pat.same L.same
          -- size = len(pattern.letters)
          refine ⟨_, rfl, q.1, C, q.2.1, _, _, rfl, pat'.ins, T.cl, T.nL, fPat_lt _ _, q.2.2.1, _, rfl, .inl (SqL.of pat'.lt), ?_⟩
          rw [vn_len]
          -- for start in range(len(dotted) - size + 1)
          refine ⟨_, rfl, d, _, rfl, .inl (L.same.seq hd), _, rfl, _, _, rfl, rfl, _, _, rfl, rfl, _, rfl, ?_, ?_, ?_⟩
          · rw [vn_len]
            omega
          · rw [vn_len]
            omega
          have turns : (((vn dt).length : Int) - (p.letters.length : Int) + 1).toNat = dt.length + 1 - p.letters.length := by
            rw [vn_len]
            omega
          rw [turns]
          refine for_range (lo := 0) (n := dt.length + 1 - p.letters.length)
            (fun j σ H' => ∃ x5 x6, σ = [some (.ref l), some (.ref d), some (.ref pv), some (.ref q.1), some (.int p.letters.length), x5, x6] ∧ LevAt H H' pv ((List.range j).foldl (fun L i => Pm.lay dt p i L) L1))
            ⟨x5, x6, rfl, L⟩ ?_ ?_
          · rintro j σ H2 hj ⟨y5, y6, rfl, L2'⟩
            rw [zero_add_cast]
            have more : (List.range (j + 1)).foldl (fun L i => Pm.lay dt p i L) L1 = Pm.lay dt p j ((List.range j).foldl (fun L i => Pm.lay dt p i L) L1) := by
              rw [List.range_succ, List.foldl_append]
              rfl
            have lenj : ((List.range j).foldl (fun L i => Pm.lay dt p i L) L1).length = dt.length + 1 := by
              rw [Pm.fold_lay_len, len0]
            generalize (List.range j).foldl (fun L i => Pm.lay dt p i L) L1 = L3 at *
            refine ⟨_, rfl, _, rfl, j, rfl, _, rfl, _, rfl, _, _, rfl, rfl, _, rfl, d, _, rfl, L2'.same.seq hd, fun pp npp => ?_⟩
            have hcut : cutV (vn dt) (some (j : Int)) (some ((j : Int) + (p.letters.length : Int))) = vn ((dt.drop j).take p.letters.length) := by
              rw [← cut_part dt j p.letters.length (by omega)]
              congr 2
            have L4 := L2'.later ((Same.refl H2).new (o := .lst (cutV (vn dt) (some (j : Int)) (some ((j : Int) + (p.letters.length : Int))))) npp)
            have hpp : upd H2 pp (.lst (cutV (vn dt) (some (j : Int)) (some ((j : Int) + (p.letters.length : Int))))) pp = some (.lst (vn ((dt.drop j).take p.letters.length))) := by
              rw [upd_same, hcut]
            generalize upd H2 pp (.lst (cutV (vn dt) (some (j : Int)) (some ((j : Int) + (p.letters.length : Int))))) = H3 at L4 hpp
            have pat4 := pat.same L4.same
            refine ⟨_, rfl, q.1, C, q.2.1, _, _, rfl, pat4.ins, T.cl, T.nL, fPat_lt _ _, _, _, dp_list (SqL.of hpp), dp_list (SqL.of pat4.lt), shaped_list _, shaped_list _, _, rfl, ?_⟩
            rw [eqv_list]
            by_cases hm : (dt.drop j).take p.letters.length = p.letters
            · have laid : Pm.lay dt p j L3 = Kh455.raiseAt j p.levels L3 := by
                unfold Pm.lay
                rw [if_pos hm]
              refine if_true_of (decide_eq_true hm) ?_
              refine ⟨_, rfl, _, _, rfl, rfl, _, rfl, ?_, ?_, ?_⟩
              · omega
              · omega
              have turns2 : ((p.letters.length : Int) + 1).toNat = p.levels.length := by
                rw [good.lv]
                rfl
              rw [turns2]
              refine for_range (lo := 0) (n := p.levels.length)
                (fun m σ H' => ∃ x6, σ = [some (.ref l), some (.ref d), some (.ref pv), some (.ref q.1), some (.int p.letters.length), some (.int j), x6] ∧ LevAt H H' pv (Kh455.raiseAt j (p.levels.take m) L3))
                ⟨y6, rfl, ?_⟩ ?_ ?_
              · have e : Kh455.raiseAt j (p.levels.take 0) L3 = L3 := by
                  rw [List.take_zero]
                  cases L3 <;> cases j <;> simp [Kh455.raiseAt]
                rw [e]
                exact L4
              · rintro m σ H5 hm2 ⟨z6, rfl, L5⟩
                rw [zero_add_cast]
                have hx := List.getElem?_eq_getElem hm2
                have hjm : j + m < (Kh455.raiseAt j (p.levels.take m) L3).length := by
                  rw [Pm.raise_len, lenj]
                  have := good.lv
                  omega
                have hy := List.getElem?_eq_getElem hjm
                have step := Pm.raise_more hx hy
                generalize p.levels[m] = x at hx step
                generalize (Kh455.raiseAt j (p.levels.take m) L3)[j + m] = y at hy step
                have pat5 := pat.same L5.same
                have place : (j : Int) + (m : Int) = ((j + m : Nat) : Int) := rfl
                refine ⟨_, rfl, _, rfl, _, rfl, _, _, rfl, rfl, pv, _, _, .int y, rfl, rfl, SqL.of L5.lv, atI_nat (vn_get hy), ?_⟩
                refine ⟨_, rfl, q.1, C, q.2.1, _, _, rfl, pat5.ins, T.cl, T.nV, fPat_lv _ _, _, rfl, q.2.2.2, _, _, _, rfl, rfl, SqL.of pat5.lv, atI_nat (vn_get hx), _, _, rfl, ?_⟩
                refine ⟨_, rfl, _, rfl, _, rfl, _, _, rfl, rfl, pv, _, _, j + m, rfl, rfl, L5.lv, ?_, ?_⟩
                · rw [place]
                  refine ixN_at ?_
                  rw [vn_len]
                  exact hjm
                · refine ⟨some (.int m), rfl, ?_⟩
                  have e : (vn (Kh455.raiseAt j (p.levels.take m) L3)).set (j + m) (.int (if (x : Int) > (y : Int) then (x : Int) else (y : Int))) = vn (Kh455.raiseAt j (p.levels.take (m + 1)) L3) := by
                    rw [max_cast, vn_set, step]
                  rw [e]
                  exact L5.put
              · rintro σ H5 ⟨z6, rfl, L5⟩
                rw [List.take_length, ← laid, ← more] at L5
                exact ⟨_, _, rfl, L5⟩
            · have laid : Pm.lay dt p j L3 = L3 := by
                unfold Pm.lay
                rw [if_neg hm]
              rw [laid] at more
              rw [← more] at L4
              exact if_false_of (decide_eq_false hm) ⟨_, _, rfl, L4⟩
          · rintro σ H2 ⟨y5, y6, rfl, L2'⟩
            refine ⟨_, _, _, _, rfl, ?_⟩
            rw [takes]
            exact L2'
      · rintro σ H' ⟨x3, x4, x5, x6, rfl, L⟩
        rw [List.length_map, hP.len, List.take_length, ← Pm.levelsPy_eq] at L
        exact ⟨_, rfl, k H' pv L.same L.lv⟩
end
end Pl

namespace Pl
open PySem PySem.Spec PyProof.Rows L2
def spPos (K : PySem.W.Frag) (C : Addr) : Sp := fun vs H Q _ => ∃ (l a : Addr) (qs : List P4) (ps : List Kh455.Pattern) (wd : List Nat), vs = [.ref l, .ref a] ∧ Pats C H l qs ps ∧ (∀ p ∈ ps, Pm.Good 900 p) ∧ SqL K H a (vn wd) ∧ wd.length ≤ 800 ∧
  ∀ (H' : Hp) (p : Addr), Same H H' → H p = none → H' p = some (.lst (vn (Kh455.hyphenate ps wd))) → Q (.ref p) H'
/-- the heap of a comprehension: what is made so far -/
structure MadeAt (H0 H : Hp) (D : Addr) (acc : List V) : Prop where
  same : Same H0 H
  d0 : H0 D = none
  at_ : H D = some (.lst acc)
theorem MadeAt.more {H0 H H' : Hp} {D : Addr} {acc : List V} (x : MadeAt H0 H D acc) (s : Same H H') (y : V) : H' D = some (.lst acc) ∧ MadeAt H0 (upd H' D (.lst (acc ++ [y]))) D (acc ++ [y]) :=
  ⟨s _ _ x.at_, (x.same.trans s).own x.d0, x.d0, upd_same⟩
/-- levels[k + 1] % 2 == 1 -/
def tOdd (K : PySem.W.Frag) : TT := tTest (tOp rEq (tOp (rI (fun _ j => 0 < j) fun i j => .int (i % j)) (tOp (rIxL K) (tVar 2) (tOp (rI0 fun i j => .int (i + j)) (tVar 4) (tC (.int 1)))) (tC (.int 2))) (tC (.int 1)))
section
variable {P : Program} {w : World} {K : PySem.W.Frag} {mg : Str → Option Value} {base : Heap} {f : Addr} {fd : FuncData}
theorem scPos : FnScope ["patterns", "word", "levels", "code", "k"] ["patterns", "word"] (defScope sPos) := ⟨rfl, rfl, rfl, by decide +kernel, rfl, by decide +kernel, by decide +kernel⟩
theorem ok_pos {C : Addr} (F : Fun K "positions_of" "positions_of" sPos f fd) (T : TPat K mg C) (mA : mg "all" = none) (ml : mg "len" = none) (mr : mg "range" = none) (mL : IntG mg "LEAST_LETTERS" 2) (DL : Def P w K mg base CX0 2 "is_letter" ["code"] (spFlag Kh455.isLetter))
    (DS : Def P w K mg base CX0 2 "to_small_letter" ["letter"] spLowerS) (DV : Def P w K mg base CX0 2 "levels_in" ["patterns", "dotted"] (spLev K C)) : FnOk P w K mg base CX0 6 f fd ["patterns", "word"] (spPos K C) := by
  refine F.ok scPos (fun vs H Q E h => ?_) (fun cdv A outer s H vs Q E hr h => ?_)
  · obtain ⟨l, d, qs, ps, dt, rfl, _⟩ := h
    rfl
  · have hr2 : Room 2 _ := hr.mono (by decide)
    refine ⟨_, pss_cons (ps_if (pt_not (pt_val (pe_callB (cr_all rfl) (by rfl) mA (by decide +kernel) (pa_cons
        (pe_lc (own := [("code", 3)]) (g := gName 3) (tt := tYes) rfl scPos.nd (pi_list (pv 1)) (blkOk_by (N := ["patterns", "word", "levels", "code", "k"]) (sc := defScope sPos) (by decide +kernel)) (fun _ _ _ _ _ => pg_name (i := 3) scPos.nd rfl (Or.inl rfl)) (fun _ _ _ _ _ => pts_nil)
          (fun _ _ _ _ _ => pe_d DL hr2 (by exact (pa_cons (pv 3) pa_nil)))) pa_nil)))) (pss_one (ps_ret (pe_lst pa_nil))) pss_nil)
      (pss_cons (ps_set (i := 2) scPos.nd rfl (Or.inr rfl) (pe_d DV hr2 (by exact (pa_cons (pv 0) (pa_cons
          (pe_op op_cat (pe_op op_cat (pe_lst (pa_cons (pe_gi T.pt) pa_nil))
            (pe_lc (own := [("code", 3)]) (g := gName 3) (tt := tYes) rfl scPos.nd (pi_list (pv 1)) (blkOk_by (N := ["patterns", "word", "levels", "code", "k"]) (sc := defScope sPos) (by decide +kernel)) (fun _ _ _ _ _ => pg_name (i := 3) scPos.nd rfl (Or.inl rfl)) (fun _ _ _ _ _ => pts_nil)
              (fun _ _ _ _ _ => pe_d DS hr2 (by exact (pa_cons (pv 3) pa_nil)))))
            (pe_lst (pa_cons (pe_gi T.pt) pa_nil))) pa_nil)))))
      (pss_one (ps_ret
        (pe_lc (own := [("k", 4)]) (g := gName 4) (tt := tOdd K) rfl scPos.nd (pi_range2 rfl mr (pa_cons (pe_gi mL) (pa_cons (pe_op op_add (pe_op op_sub (pe_callB call_len_seq (by rfl) ml PySem.boot_len (pa_cons (pv 1) pa_nil)) (pe_gi mL)) pe_int) pa_nil)))
          (blkOk_by (N := ["patterns", "word", "levels", "code", "k"]) (sc := defScope sPos) (by decide +kernel)) (fun _ _ _ _ _ => pg_name (i := 4) scPos.nd rfl (Or.inl rfl))
          (fun _ _ _ _ _ => pts_one (pt_cmpR op_eq (pe_op op_mod (pe_ix ix_list (pv 2) (pe_op op_add (pv 4) pe_int) (fun _ _ => rfl)) pe_int) pe_int (nomark _))) (fun _ _ _ _ _ => pv 4))))), ?_⟩
    obtain ⟨l, a, qs, ps, wd, rfl, hP, hgood, ha, hlen, k⟩ := h
    have good : ∀ p ∈ ps, p.letters ≠ [] := fun p hp => (hgood p hp).some_
    have result := Pm.hyphenate_eq ps wd good
    -- all([is_letter(code) for code in word])
    refine ⟨_, rfl, a, rfl, ⟨_, ha⟩, fun D nD => lc_list (K := K) (a := a) (xs := vn wd) (fun i H' => MadeAt H H' D (((wd.take i).map Kh455.isLetter).map V.bl))
      ⟨(Same.refl H).new nD, nD, upd_same⟩ (fun i H' _ M => M.same.seq ha) ?_ ?_⟩
    · intro i x H' hi M
      obtain ⟨c, hc, rfl⟩ := vn_of hi
      refine ⟨rfl, ?_⟩
      unfold tYes
      dsimp only
      rw [if_pos rfl]
      refine ⟨_, rfl, c, rfl, fun H2 s2 => ?_⟩
      obtain ⟨h1, h2⟩ := M.more s2 (.bl (Kh455.isLetter c))
      refine ⟨_, h1, small1000 (by rw [List.length_map, List.length_map, List.length_take]; omega), ?_⟩
      rw [take_more hc, List.map_append, List.map_append]
      exact h2
    · intro H1 M
      rw [vn_len, List.take_length] at M
      refine ⟨D, wd.map Kh455.isLetter, rfl, SqL.of M.at_, _, rfl, ?_⟩
      have eall : (wd.map Kh455.isLetter).all id = wd.all Kh455.isLetter := by
        rw [List.all_map]
        rfl
      rw [eall]
      cases ew : wd.all Kh455.isLetter with
      | false =>
        rw [ew, if_neg Bool.false_ne_true] at result
        refine iteT ⟨Nat.zero_le _, fun p np => k _ p (M.same.new np) (M.same.free np) ?_⟩
        rw [upd_same, result]
        rfl
      | true =>
        rw [ew, if_pos rfl] at result
        refine iteF ?_
        have s1 := M.same
        clear M
        -- levels_in(patterns, [POINT] + [..] + [POINT])
        refine ⟨_, rfl, (by show 1 ≤ sizeLine; decide), fun p1 np1 => ?_⟩
        have s2 : Same H (upd H1 p1 (.lst [.int 46])) := s1.new np1
        have e2 : upd H1 p1 (.lst [.int 46]) p1 = some (.lst [.int 46]) := upd_same
        generalize upd H1 p1 (.lst [.int 46]) = H2 at s2 e2
        refine ⟨_, rfl, a, rfl, ⟨_, s2.seq ha⟩, fun D2 nD2 => lc_list (K := K) (a := a) (xs := vn wd) (fun i H' => MadeAt H2 H' D2 (vn ((wd.take i).map Kh450.lowerCase)))
          ⟨(Same.refl H2).new nD2, nD2, upd_same⟩ (fun i H' _ M => M.same.seq (s2.seq ha)) ?_ ?_⟩
        · intro i x H' hi M
          obtain ⟨c, hc, rfl⟩ := vn_of hi
          refine ⟨rfl, ?_⟩
          unfold tYes
          dsimp only
          rw [if_pos rfl]
          refine ⟨_, rfl, c, rfl, fun H3 s3 => ?_⟩
          obtain ⟨h1, h2⟩ := M.more s3 (.int (Kh450.lowerCase c : Nat))
          refine ⟨_, h1, small1000 (by rw [vn_len, List.length_map, List.length_take]; omega), ?_⟩
          rw [take_more hc, List.map_append]
          show MadeAt H2 _ D2 (vn ((wd.take i).map Kh450.lowerCase ++ [Kh450.lowerCase c]))
          rw [← vn_snoc]
          exact h2
        · intro H3 M
          rw [vn_len, List.take_length] at M
          have big : 10000 ≤ sizeLine := by decide
          have f1 : H3 p1 = some (.lst [.int 46]) := M.same _ _ e2
          refine ⟨p1, D2, _, _, rfl, rfl, f1, M.at_, (by rw [vn_len, List.length_map]; simp; omega), fun p3 np3 => ?_⟩
          have s4 : Same H (upd H3 p3 (.lst ([.int 46] ++ vn (wd.map Kh450.lowerCase)))) := (s2.trans M.same).new np3
          have e4 : upd H3 p3 (.lst ([.int 46] ++ vn (wd.map Kh450.lowerCase))) p3 = some (.lst ([.int 46] ++ vn (wd.map Kh450.lowerCase))) := upd_same
          generalize upd H3 p3 (.lst ([.int 46] ++ vn (wd.map Kh450.lowerCase))) = H4 at s4 e4
          refine ⟨(by show 1 ≤ sizeLine; decide), fun p4 np4 => ?_⟩
          have f4 : upd H4 p4 (.lst [.int 46]) p3 = some (.lst ([.int 46] ++ vn (wd.map Kh450.lowerCase))) := by
            rw [upd_ne (ne_of_none e4 np4)]
            exact e4
          refine ⟨p3, p4, _, _, rfl, rfl, f4, upd_same, (by rw [List.length_append, vn_len, List.length_map]; simp; omega), fun p5 np5 => ?_⟩
          have s5 : Same H (upd (upd H4 p4 (.lst [.int 46])) p5 (.lst ([.int 46] ++ vn (wd.map Kh450.lowerCase) ++ [.int 46]))) := (s4.new np4).new np5
          have e5 : upd (upd H4 p4 (.lst [.int 46])) p5 (.lst ([.int 46] ++ vn (wd.map Kh450.lowerCase) ++ [.int 46])) p5 = some (.lst (vn ([46] ++ wd.map Kh450.lowerCase ++ [46]))) := by
            rw [upd_same]
            unfold vn
            rw [List.map_append, List.map_append]
            rfl
          generalize upd (upd H4 p4 (.lst [.int 46])) p5 (.lst ([.int 46] ++ vn (wd.map Kh450.lowerCase) ++ [.int 46])) = H5 at s5 e5
          refine ⟨l, p5, qs, ps, [46] ++ wd.map Kh450.lowerCase ++ [46], rfl, hP.same s5, hgood, SqL.of e5, (by simp; omega), fun H6 pl s6 hl => ?_⟩
          have s6' := s5.trans s6
          -- the positions
          have lenL : (Pm.levelsPy ps ([46] ++ wd.map Kh450.lowerCase ++ [46])).length = wd.length + 3 := by
            rw [Pm.levelsPy_eq, Pm.fold_all_len, List.length_replicate]
            simp
          generalize Pm.levelsPy ps ([46] ++ wd.map Kh450.lowerCase ++ [46]) = L at hl lenL result
          refine ⟨_, rfl, a, _, rfl, .inl (s6'.seq ha), _, _, rfl, rfl, _, _, rfl, rfl, _, _, rfl, ?_, fun D3 nD3 => ?_⟩
          · rw [vn_len]
            omega
          have turns : (((vn wd).length : Int) - 2 + 1 - 2).toNat = wd.length - 3 := by
            rw [vn_len]
            omega
          rw [turns]
          refine lc_range (lo := 2) (n := wd.length - 3) (fun i H' => MadeAt H6 H' D3 (vn (((List.range i).map (2 + ·)).filter fun k => L.getD (k + 1) 0 % 2 == 1))) ⟨(Same.refl H6).new nD3, nD3, upd_same⟩ ?_ ?_
          · intro i H' hi M
            have hik : 2 + i + 1 < L.length := by omega
            have hx := List.getElem?_eq_getElem hik
            have hd : L.getD (2 + i + 1) 0 = L[2 + i + 1] := by
              rw [List.getD_eq_getElem?_getD, hx]
              rfl
            generalize L[2 + i + 1] = x at hx hd
            have more : ((List.range (i + 1)).map (2 + ·)).filter (fun k => L.getD (k + 1) 0 % 2 == 1) = ((List.range i).map (2 + ·)).filter (fun k => L.getD (k + 1) 0 % 2 == 1) ++ (if x % 2 = 1 then [2 + i] else []) := by
              rw [List.range_succ, List.map_append, List.filter_append]
              congr 1
              rw [List.map_singleton, List.filter_cons, List.filter_nil, hd]
              by_cases h : x % 2 = 1
              · rw [if_pos h, if_pos (beq_iff_eq.mpr h)]
              · rw [if_neg h, if_neg (fun z => h (beq_iff_eq.mp z))]
            refine ⟨rfl, ?_⟩
            have hl' := M.same _ _ hl
            have place : (2 : Int) + (i : Int) + 1 = ((2 + i + 1 : Nat) : Int) := rfl
            refine ⟨_, rfl, _, rfl, _, _, rfl, rfl, pl, _, _, .int x, rfl, rfl, SqL.of hl', ?_, _, _, rfl, rfl, (by show (0 : Int) < 2; decide), rfl, _, rfl, ?_⟩
            · show atI (vn L) ((2 : Int) + (i : Int) + 1) = _
              rw [place]
              exact atI_nat (vn_get hx)
            · by_cases h : x % 2 = 1
              · rw [if_pos h] at more
                refine if_true_of (decide_eq_true ?_) ?_
                · show V.int ((x : Int) % 2) = V.int 1
                  congr 1
                  omega
                · obtain ⟨h1, h2⟩ := M.more (Same.refl H') (.int ((2 : Int) + (i : Int)))
                  have short : (((List.range i).map (2 + ·)).filter fun k => L.getD (k + 1) 0 % 2 == 1).length ≤ i := by
                    refine Nat.le_trans (List.length_filter_le _ _) ?_
                    rw [List.length_map, List.length_range]
                    exact Nat.le_refl _
                  refine ⟨_, rfl, _, h1, small1000 (by rw [vn_len]; omega), ?_⟩
                  rw [more, ← vn_snoc]
                  exact h2
              · rw [if_neg h, List.append_nil] at more
                refine if_false_of (decide_eq_false fun z => h ?_) ?_
                · have z' : V.int ((x : Int) % 2) = V.int 1 := z
                  injection z' with z'
                  omega
                · rw [more]
                  exact M
          · intro H7 M
            rw [← result] at M
            exact k H7 D3 (s6'.trans M.same) (s6'.free nD3) M.at_
end
end Pl

namespace Pl
open PySem PySem.Spec PyProof.Rows L2
/-! ### pieces -/
abbrev StrG (mg : Str → Option Value) (x s : Str) : Prop := ∃ t, mg x = some (.str s t)
theorem pe_gs {X : Cx} {x s : Str} {p : Pos} (h : StrG X.mg x s) (hg : Gl X x := by rfl) (hd : (x == ("__debug__" : Str)) = false := by decide) : PE X (.Name x p) (tC (.str s)) := by
  obtain ⟨t, h⟩ := h
  exact pe_glob hg h ⟨t, rfl⟩ hd
def js : Kh455.Joint → Str
  | .space => "space"
  | .hyphen => "hyphen"
  | .plain => "plain"
abbrev fPiece (ca : Addr) (z : Str) : List (Str × V) := [(("characters" : Str), .ref ca), (("joint" : Str), .str z)]
/-- a Piece's three objects: itself, its dict, its characters -/
abbrev P3 := Addr × Addr × Addr
structure PieceAt (C : Addr) (H : Hp) (q : P3) (p : Kh455.Piece) : Prop where
  ins : H q.1 = some (.ins C q.2.1 (fPiece q.2.2 (js p.joint)))
  ch : H q.2.2 = some (.lst (vn p.content))
theorem PieceAt.same {C : Addr} {H H' : Hp} {q : P3} {p : Kh455.Piece} (x : PieceAt C H q p) (s : Same H H') : PieceAt C H' q p := ⟨s _ _ x.ins, s _ _ x.ch⟩
def P3.off (q : P3) (D : Addr) : Prop := q.1 ≠ D ∧ q.2.2 ≠ D
theorem PieceAt.beside {C D : Addr} {H : Hp} {o : HO} {q : P3} {p : Kh455.Piece} (x : PieceAt C H q p) (h : q.off D) : PieceAt C (upd H D o) q p :=
  ⟨by rw [upd_ne h.1]; exact x.ins, by rw [upd_ne h.2]; exact x.ch⟩
abbrev refs3 (qs : List P3) : List V := qs.map fun q : P3 => V.ref q.1
/-- a list (at l) of Pieces -/
structure PcsAt (C : Addr) (H : Hp) (l : Addr) (qs : List P3) (ps : List Kh455.Piece) : Prop where
  lst : H l = some (.lst (refs3 qs))
  len : qs.length = ps.length
  at_ : ∀ (i : Nat) (q : P3) (p : Kh455.Piece), qs[i]? = some q → ps[i]? = some p → PieceAt C H q p
theorem PcsAt.same {C l : Addr} {H H' : Hp} {qs : List P3} {ps : List Kh455.Piece} (x : PcsAt C H l qs ps) (s : Same H H') : PcsAt C H' l qs ps := ⟨s _ _ x.lst, x.len, fun i q p h1 h2 => (x.at_ i q p h1 h2).same s⟩
/-- .. all of them made since H0 -/
structure Pcs (C : Addr) (H0 H : Hp) (l : Addr) (qs : List P3) (ps : List Kh455.Piece) : Prop where
  same : Same H0 H
  l0 : H0 l = none
  at_ : PcsAt C H l qs ps
  new : ∀ q ∈ qs, ∀ b, H0 b ≠ none → q.off b
  off : ∀ q ∈ qs, q.off l
theorem Pcs.later {C l : Addr} {H0 H H' : Hp} {qs : List P3} {ps : List Kh455.Piece} (x : Pcs C H0 H l qs ps) (s : Same H H') : Pcs C H0 H' l qs ps := ⟨x.same.trans s, x.l0, x.at_.same s, x.new, x.off⟩
theorem Pcs.start {C l : Addr} {H0 H : Hp} (s : Same H0 H) (n : H l = none) : Pcs C H0 (upd H l (.lst [])) l [] [] :=
  ⟨s.new n, s.free n, ⟨upd_same, rfl, fun i q p e => by simp at e⟩, (fun q h => absurd h List.not_mem_nil), (fun q h => absurd h List.not_mem_nil)⟩
/-- two lists of them, one behind the other -/
theorem at_cat {C D : Addr} {H : Hp} {o : HO} {qs qs2 : List P3} {ps ps2 : List Kh455.Piece} (hl : qs.length = ps.length) (h1 : ∀ (i : Nat) (q : P3) (p : Kh455.Piece), qs[i]? = some q → ps[i]? = some p → PieceAt C H q p) (o1 : ∀ q ∈ qs, q.off D)
    (h2 : ∀ (i : Nat) (q : P3) (p : Kh455.Piece), qs2[i]? = some q → ps2[i]? = some p → PieceAt C H q p) (o2 : ∀ q ∈ qs2, q.off D) (i : Nat) (q : P3) (p : Kh455.Piece) (e1 : (qs ++ qs2)[i]? = some q) (e2 : (ps ++ ps2)[i]? = some p) : PieceAt C (upd H D o) q p := by
  by_cases hi : i < qs.length
  · rw [List.getElem?_append_left hi] at e1
    rw [List.getElem?_append_left (by rw [← hl]; exact hi)] at e2
    exact (h1 i q p e1 e2).beside (o1 q (List.mem_of_getElem? e1))
  · have hi' : qs.length ≤ i := Nat.le_of_not_lt hi
    rw [List.getElem?_append_right hi'] at e1
    rw [List.getElem?_append_right (by rw [← hl]; exact hi'), ← hl] at e2
    exact (h2 _ q p e1 e2).beside (o2 q (List.mem_of_getElem? e1))
/-- others, made since, are put behind -/
theorem Pcs.extend {C l l2 : Addr} {H0 H H' : Hp} {qs qs2 : List P3} {ps ps2 : List Kh455.Piece} (x : Pcs C H0 H l qs ps) (y : Pcs C H H' l2 qs2 ps2) : Pcs C H0 (upd H' l (.lst (refs3 qs ++ refs3 qs2))) l (qs ++ qs2) (ps ++ ps2) := by
  have hl : H l ≠ none := by
    rw [x.at_.lst]
    exact fun z => nomatch z
  refine ⟨(x.same.trans y.same).own x.l0, x.l0, ⟨?_, ?_, ?_⟩, fun q h b hb => ?_, fun q h => ?_⟩
  · have e : refs3 (qs ++ qs2) = refs3 qs ++ refs3 qs2 := List.map_append
    rw [upd_same, e]
  · rw [List.length_append, List.length_append, x.at_.len, y.at_.len]
  · exact at_cat x.at_.len (x.at_.same y.same).at_ x.off y.at_.at_ fun q h => y.new q h l hl
  · rcases List.mem_append.mp h with z | z
    · exact x.new q z b hb
    · refine y.new q z b fun e => ?_
      cases e0 : H0 b with
      | none => exact hb e0
      | some o =>
        rw [x.same b o e0] at e
        cases e
  · rcases List.mem_append.mp h with z | z
    · exact x.off q z
    · exact y.new q z l hl
/-- one more, made since -/
theorem Pcs.more {C l : Addr} {H0 H H' : Hp} {qs : List P3} {q : P3} {ps : List Kh455.Piece} {p : Kh455.Piece} (x : Pcs C H0 H l qs ps) (s : Same H H') (y : PieceAt C H' q p) (n : ∀ b, H b ≠ none → q.off b) :
    Pcs C H0 (upd H' l (.lst (refs3 qs ++ [.ref q.1]))) l (qs ++ [q]) (ps ++ [p]) := by
  have hl : H l ≠ none := by
    rw [x.at_.lst]
    exact fun z => nomatch z
  have one : ∀ (i : Nat) (r : P3) (v : Kh455.Piece), [q][i]? = some r → [p][i]? = some v → PieceAt C H' r v := fun i r v e1 e2 => by
    cases i with
    | zero =>
      simp only [List.getElem?_cons_zero, Option.some.injEq] at e1 e2
      subst e1 e2
      exact y
    | succ i => simp at e1
  refine ⟨(x.same.trans s).own x.l0, x.l0, ⟨?_, ?_, ?_⟩, fun r h b hb => ?_, fun r h => ?_⟩
  · have e : refs3 (qs ++ [q]) = refs3 qs ++ [.ref q.1] := List.map_append
    rw [upd_same, e]
  · rw [List.length_append, List.length_append, x.at_.len]
    rfl
  · exact at_cat x.at_.len (x.at_.same s).at_ x.off one fun r h => by
      rw [List.mem_singleton.mp h]
      exact n l hl
  · rcases List.mem_append.mp h with z | z
    · exact x.new r z b hb
    · rw [List.mem_singleton.mp z]
      refine n b fun e => ?_
      cases e0 : H0 b with
      | none => exact hb e0
      | some o =>
        rw [x.same b o e0] at e
        cases e
  · rcases List.mem_append.mp h with z | z
    · exact x.off r z
    · rw [List.mem_singleton.mp z]
      exact n l hl
structure TPc (K : PySem.W.Frag) (mg : Str → Option Value) (C : Addr) : Prop where
  cl : Cls K C
  nC : NoAttr K C "characters"
  nJ : NoAttr K C "joint"
  gC : mg "Piece" = some (.ref C)
  hy : IntG mg "HYPHEN" 45
  sj : StrG mg "SPACE_JOINT" "space"
  pj : StrG mg "PLAIN_JOINT" "plain"
  hj : StrG mg "HYPHEN_JOINT" "hyphen"
def spPieceI (C : Addr) : Sp := fun vs H Q _ => ∃ (p dx ca : Addr) (z : Str), vs = [.ref p, .ref ca, .str z] ∧ H p = some (.ins C dx []) ∧ ∀ H' : Hp, H' p = some (.ins C dx (fPiece ca z)) → (∀ b, b ≠ p → H' b = H b) → Q .non H'
def spParts (K : PySem.W.Frag) : Sp := fun vs H Q _ => ∃ (a : Addr) (w : List Nat), vs = [.ref a] ∧ SqL K H a (vn w) ∧ w.length ≤ 1000 ∧ ∀ (H' : Hp) (p : Addr) (as : List Addr), Same H H' → Lists H' p as (Kh455.splitHyphens w) → Q (.ref p) H'
def spPcPart (K : PySem.W.Frag) (CT C : Addr) : Sp := fun vs H Q _ => ∃ (l a : Addr) (qp : List P4) (pp : List Kh455.Pattern) (w : List Nat) (j : Kh455.Joint), vs = [.ref l, .ref a, .str (js j)] ∧ Pats CT H l qp pp ∧ (∀ p ∈ pp, Pm.Good 900 p) ∧ SqL K H a (vn w) ∧ w.length ≤ 800 ∧
  ∀ (H' : Hp) (m : Addr) (qs : List P3), Pcs C H H' m qs (Kh455.partPieces pp w j) → Q (.ref m) H'
def spPcWord (K : PySem.W.Frag) (CT C : Addr) : Sp := fun vs H Q _ => ∃ (l a : Addr) (qp : List P4) (pp : List Kh455.Pattern) (w : List Nat), vs = [.ref l, .ref a] ∧ Pats CT H l qp pp ∧ (∀ p ∈ pp, Pm.Good 900 p) ∧ SqL K H a (vn w) ∧ w.length ≤ 800 ∧ w ≠ [] ∧
  ∀ (H' : Hp) (m : Addr) (qs : List P3), Pcs C H H' m qs (Kh455.wordPieces pp w) → Q (.ref m) H'
def spPieces (K : PySem.W.Frag) (CT C : Addr) : Sp := fun vs H Q _ => ∃ (l a : Addr) (qp : List P4) (pp : List Kh455.Pattern) (t : List Nat), vs = [.ref l, .ref a] ∧ Pats CT H l qp pp ∧ (∀ p ∈ pp, Pm.Good 900 p) ∧ SqL K H a (vn t) ∧ t.length ≤ 800 ∧
  ∀ (H' : Hp) (m : Addr) (qs : List P3), Pcs C H H' m qs (Kh455.pieces pp t) → Q (.ref m) H'
theorem cut_any (l : List Nat) (i j : Nat) (h : i ≤ l.length) : cutV (vn l) (some (i : Int)) (some (j : Int)) = vn ((l.drop i).take (j - i)) := by
  unfold cutV
  rw [HT.sIx_nat, HT.sIx_nat, vn_len, Nat.min_eq_left h]
  unfold vn
  rw [List.map_take, List.map_drop]
  apply List.ext_getElem?
  intro k
  rw [List.getElem?_take, List.getElem?_take, List.getElem?_drop]
  by_cases h1 : k < j - i
  · rw [if_pos h1]
    by_cases h2 : k < min j l.length - i
    · rw [if_pos h2]
    · rw [if_neg h2, List.getElem?_eq_none]
      rw [List.length_map]
      omega
  · rw [if_neg h1, if_neg (by omega)]
theorem cut_from (l : List Nat) (i : Nat) (h : i ≤ l.length) : cutV (vn l) (some (i : Int)) none = vn (l.drop i) := by
  unfold cutV
  rw [HT.sIx_nat, HT.sIx_none, vn_len, Nat.min_eq_left h]
  unfold vn
  rw [List.map_drop]
  apply List.take_of_length_le
  rw [List.length_drop, List.length_map]
  exact Nat.le_refl _
section
variable {P : Program} {w : World} {K : PySem.W.Frag} {mg : Str → Option Value} {base : Heap} {f : Addr} {fd : FuncData}
theorem scPieceI : FnScope ["self", "characters", "joint"] ["self", "characters", "joint"] (defScope sPieceI) := ⟨rfl, rfl, rfl, by decide +kernel, rfl, by decide +kernel, by decide +kernel⟩
theorem ok_pieceI {C : Addr} (F : Fun K "__init__" "Piece.__init__" sPieceI f fd) (T : TPc K mg C) : FnOk P w K mg base CX0 1 f fd ["self", "characters", "joint"] (spPieceI C) := by
  refine F.ok scPieceI (fun vs H Q E h => ?_) (fun cdv A outer s H vs Q E hr h => ⟨_, pss_cons (ps_fld (pv 0) (pv 1) rfl) (pss_one (ps_fld (pv 0) (pv 2) rfl)), ?_⟩)
  · obtain ⟨p, dx, ca, z, rfl, _⟩ := h
    rfl
  · obtain ⟨p, dx, ca, z, rfl, hp, k⟩ := h
    refine ⟨_, rfl, _, rfl, p, C, dx, [], rfl, hp, T.cl, T.nC, (by show 0 < 1000; decide), ?_⟩
    refine ⟨_, rfl, _, rfl, p, C, dx, _, rfl, upd_same, T.cl, T.nJ, (by show 1 < 1000; decide), ?_⟩
    refine k _ ?_ fun b hb => by rw [upd_ne hb, upd_ne hb]
    rw [upd_same]
    have e : putF "joint" (.str z) (putF "characters" (.ref ca) ([] : List (Str × V))) = fPiece ca z := by
      show putF "joint" (.str z) [(("characters" : Str), V.ref ca)] = _
      unfold putF
      rw [if_neg (by decide +kernel)]
      rfl
    exact congrArg (fun q => some (HO.ins C dx q)) e
theorem scParts : FnScope ["word", "parts", "start", "at"] ["word"] (defScope sParts) := ⟨rfl, rfl, rfl, by decide +kernel, rfl, by decide +kernel, by decide +kernel⟩
theorem ok_parts {C : Addr} (F : Fun K "parts_of" "parts_of" sParts f fd) (T : TPc K mg C) (ml : mg "len" = none) (mr : mg "range" = none) : FnOk P w K mg base CX0 2 f fd ["word"] (spParts K) := by
  refine F.ok scParts (fun vs H Q E h => ?_) (fun cdv A outer s H vs Q E hr h => ?_)
  · obtain ⟨a, t, rfl, _⟩ := h
    rfl
  · refine ⟨_, pss_cons (ps_set (i := 1) scParts.nd rfl (Or.inl rfl) (pe_lst pa_nil))
      (pss_cons (ps_set (i := 2) scParts.nd rfl (Or.inl rfl) pe_int)
      (pss_cons (ps_for PassesOwn.never rfl (pi_range2 rfl mr (pa_cons pe_int (pa_cons (pe_callB call_len_seq (by rfl) ml PySem.boot_len (pa_cons (pv 0) pa_nil)) pa_nil))) (pg_name (i := 3) scParts.nd rfl (Or.inl rfl))
        (pss_one (ps_if (PW.pt (pw_and (pt_cmpR op_eq (pe_ix ix_list (pv 0) (pe_op op_sub (pv 3) pe_int) (fun _ _ => rfl)) (pe_gi T.hy) (nomark _)) (pw_and1 (pt_cmpR op_ne (pe_ix ix_list (pv 0) (pv 3) (fun _ _ => rfl)) (pe_gi T.hy) (nomark _)))))
          (pss_cons (ps_expr (pe_bm PySem.F.plainAttrs_list PySem.F.slot_list_append PySem.F.type_list_append mt_append (pv 1) (pa_cons (pe_slice sl_list (pv 0) (po_some (pv 2)) (po_some (pv 3))) pa_nil)))
            (pss_one (ps_set (i := 2) scParts.nd rfl (Or.inl rfl) (pv 3))))
          pss_nil)))
      (pss_cons (ps_expr (pe_bm PySem.F.plainAttrs_list PySem.F.slot_list_append PySem.F.type_list_append mt_append (pv 1) (pa_cons (pe_slice sl_list (pv 0) (po_some (pv 2)) po_none) pa_nil)))
      (pss_one (ps_ret (pv 1)))))), ?_⟩
    obtain ⟨a, t, rfl, hS, hlen, k⟩ := h
    have big : 900000 < sizeLine := by decide
    refine ⟨Nat.zero_le _, fun l nl => ?_⟩
    have s1 : Same H (upd H l (.lst [])) := (Same.refl H).new nl
    refine ⟨_, rfl, a, _, rfl, .inl (s1.seq hS), _, _, rfl, (by rw [vn_len]; omega), ?_⟩
    have turns : (((vn t).length : Int) - 1).toNat = t.length - 1 := by
      rw [vn_len]
      omega
    rw [turns]
    refine for_range (lo := 1) (n := t.length - 1) (fun j σ H' => ∃ (as : List Addr) (ws : List (List Nat)) (st : Nat) (x : Option V), σ = [some (.ref a), some (.ref l), some (.int st), x] ∧ Same H H' ∧ Lists H' l as ws ∧ l ∉ as ∧ ws.length ≤ j ∧ Pm.SplitAt t ws st j)
      ⟨[], [], 0, none, rfl, s1, ⟨upd_same, rfl, fun i a w e => by simp at e⟩, List.not_mem_nil, Nat.le_refl _, Pm.split_start t⟩ ?_ ?_
    · rintro j σ H' hj ⟨as, ws, st, x, rfl, s2, L, nla, hws, hsp⟩
      have h0 := List.getElem?_eq_getElem (show j < t.length by omega)
      have h1 := List.getElem?_eq_getElem (show j + 1 < t.length by omega)
      have step := Pm.split_step hsp h0 h1
      have hst := hsp.1
      generalize t[j] = c at h0 step
      generalize t[j + 1] = d at h1 step
      have p0 : (1 : Int) + (j : Int) - 1 = (j : Int) := by omega
      have p1 : (1 : Int) + (j : Int) = ((j + 1 : Nat) : Int) := by omega
      rw [p1]
      refine ⟨_, rfl, _, rfl, _, _, rfl, rfl, a, _, _, .int c, rfl, rfl, s2.seq hS, ?_, rfl, _, rfl, ?_⟩
      · show atI (vn t) (((j + 1 : Nat) : Int) - 1) = _
        rw [← p1, p0]
        exact atI_nat (vn_get h0)
      · by_cases hc : c = 45
        · refine if_true_of (decide_eq_true (by rw [hc]; rfl)) ?_
          refine ⟨_, rfl, _, rfl, a, _, _, .int d, rfl, rfl, s2.seq hS, atI_nat (vn_get h1), rfl, _, rfl, ?_⟩
          by_cases hd : d = 45
          · rw [if_neg (fun z => z.2 hd), if_neg (fun z => z.2 hd)] at step
            have e : (!decide (V.int (d : Int) = V.int 45)) = false := by
              rw [hd]
              rfl
            refine if_false_of e ?_
            exact ⟨as, ws, st, some (.int (j + 1 : Nat)), rfl, s2, L, nla, Nat.le_succ_of_le hws, step⟩
          · rw [if_pos ⟨hc, hd⟩, if_pos ⟨hc, hd⟩] at step
            have e : (!decide (V.int (d : Int) = V.int 45)) = true := by
              rw [decide_eq_false]
              · rfl
              · intro z
                injection z with z
                exact hd (by omega)
            refine if_true_of e ?_
            refine ⟨_, rfl, .inl ⟨rfl, _, SqL.of L.lst⟩, _, rfl, _, rfl, _, rfl, _, rfl, _, rfl, a, _, rfl, s2.seq hS, fun c nc => ?_⟩
            have s3 : Same H' (upd H' c (.lst (cutV (vn t) (some (st : Int)) (some ((j + 1 : Nat) : Int))))) := (Same.refl H').new nc
            have hcq : upd H' c (.lst (cutV (vn t) (some (st : Int)) (some ((j + 1 : Nat) : Int)))) c = some (.lst (vn ((t.drop st).take (j + 1 - st)))) := by
              rw [upd_same, cut_any t st (j + 1) (by omega)]
            generalize upd H' c (.lst (cutV (vn t) (some (st : Int)) (some ((j + 1 : Nat) : Int)))) = H3 at s3 hcq
            have L3 := L.same s3
            have ncl : c ≠ l := (ne_of_none L.lst nc).symm
            refine ⟨l, _, _, rfl, rfl, L3.lst, (by rw [List.length_map, L.len]; omega), ?_⟩
            have nlas : l ∉ as ++ [c] := fun z => by
              rcases List.mem_append.mp z with z | z
              · exact nla z
              · exact ncl (List.mem_singleton.mp z).symm
            exact ⟨_, rfl, _, _, j + 1, some (.int (j + 1 : Nat)), rfl, (s2.trans s3).own nl, L3.more hcq ncl nla, nlas, by simp; omega, step⟩
        · rw [if_neg (fun z => hc z.1), if_neg (fun z => hc z.1)] at step
          refine if_false_of (decide_eq_false fun z => hc ?_) (iteF ?_)
          · injection z with z
            omega
          · exact ⟨as, ws, st, some (.int (j + 1 : Nat)), rfl, s2, L, nla, Nat.le_succ_of_le hws, step⟩
    · rintro σ H' ⟨as, ws, st, x, rfl, s2, L, nla, hws, hsp⟩
      have hst := hsp.1
      have done := Pm.split_end hsp
      refine ⟨_, rfl, .inl ⟨rfl, _, SqL.of L.lst⟩, _, rfl, _, rfl, _, rfl, a, _, rfl, s2.seq hS, fun c nc => ?_⟩
      have s3 : Same H' (upd H' c (.lst (cutV (vn t) (some (st : Int)) none))) := (Same.refl H').new nc
      have hcq : upd H' c (.lst (cutV (vn t) (some (st : Int)) none)) c = some (.lst (vn (t.drop st))) := by
        rw [upd_same, cut_from t st (by omega)]
      generalize upd H' c (.lst (cutV (vn t) (some (st : Int)) none)) = H3 at s3 hcq
      have L3 := L.same s3
      have ncl : c ≠ l := (ne_of_none L.lst nc).symm
      refine ⟨l, _, _, rfl, rfl, L3.lst, (by rw [List.length_map, L.len]; omega), ?_⟩
      refine ⟨_, rfl, k _ l (as ++ [c]) ((s2.trans s3).own nl) ?_⟩
      rw [done]
      exact L3.more hcq ncl nla
end
end Pl

namespace Pl
open PySem PySem.Spec PyProof.Rows L2
theorem cut_front (xs : List V) : cutV xs none (some (-1)) = xs.dropLast := by
  unfold cutV
  have e : HT.sIx xs.length xs.length (some (-1)) = xs.length - 1 := by
    show (if (-1 : Int) < 0 then ((-1 : Int) + (xs.length : Int)).toNat else min (-1 : Int).toNat xs.length) = _
    rw [if_pos (by decide)]
    omega
  rw [e, HT.sIx_none, List.drop_zero, List.dropLast_eq_take, Nat.sub_zero]
section
variable {P : Program} {w : World} {K : PySem.W.Frag} {mg : Str → Option Value} {base : Heap} {f : Addr} {fd : FuncData}
theorem scPcPart : FnScope ["patterns", "part", "last_joint", "pieces", "start", "position"] ["patterns", "part", "last_joint"] (defScope sPcPart) := ⟨rfl, rfl, rfl, by decide +kernel, rfl, by decide +kernel, by decide +kernel⟩
theorem ok_pcPart {CT C fI : Addr} {fdI : FuncData} (F : Fun K "pieces_of_part" "pieces_of_part" sPcPart f fd) (T : TPc K mg C) (M : Mk K C fI) (GI : FnOk P w K mg base CX0 1 fI fdI ["self", "characters", "joint"] (spPieceI C)) (bI : Binds K fdI ["self", "characters", "joint"] [])
    (DO : Def P w K mg base CX0 6 "positions_of" ["patterns", "word"] (spPos K CT)) : FnOk P w K mg base CX0 8 f fd ["patterns", "part", "last_joint"] (spPcPart K CT C) := by
  refine F.ok scPcPart (fun vs H Q E h => ?_) (fun cdv A outer s H vs Q E hr h => ?_)
  · obtain ⟨l, a, qp, pp, wd, j, rfl, _⟩ := h
    rfl
  · have hr6 : Room 6 _ := hr.mono (by decide)
    have hr2 : Room 2 _ := hr.mono (by decide)
    refine ⟨_, pss_cons (ps_set (i := 3) scPcPart.nd rfl (Or.inl rfl) (pe_lst pa_nil))
      (pss_cons (ps_set (i := 4) scPcPart.nd rfl (Or.inl rfl) pe_int)
      (pss_cons (ps_for PassesOwn.never rfl (pi_list (pe_d DO hr6 (by exact (pa_cons (pv 0) (pa_cons (pv 1) pa_nil))))) (pg_name (i := 5) scPcPart.nd rfl (Or.inl rfl))
        (pss_cons (ps_expr (pe_bm PySem.F.plainAttrs_list PySem.F.slot_list_append PySem.F.type_list_append mt_append (pv 3)
            (pa_cons (pe_make M GI hr2 rfl T.gC bI .nil pass0 (by exact (pa_cons (pe_slice sl_list (pv 1) (po_some (pv 4)) (po_some (pv 5))) (pa_cons (pe_gs T.hj) pa_nil)))) pa_nil)))
          (pss_one (ps_set (i := 4) scPcPart.nd rfl (Or.inl rfl) (pv 5)))))
      (pss_cons (ps_expr (pe_bm PySem.F.plainAttrs_list PySem.F.slot_list_append PySem.F.type_list_append mt_append (pv 3)
            (pa_cons (pe_make M GI hr2 rfl T.gC bI .nil pass0 (by exact (pa_cons (pe_slice sl_list (pv 1) (po_some (pv 4)) po_none) (pa_cons (pv 2) pa_nil)))) pa_nil)))
      (pss_one (ps_ret (pv 3)))))), ?_⟩
    obtain ⟨l, a, qp, pp, wd, jt, rfl, hP, hgood, ha, hlen, k⟩ := h
    have big : 900000 < sizeLine := by decide
    have due := Pm.partPieces_eq pp wd jt
    obtain ⟨hris, hin⟩ := Pm.hyph_rising pp wd fun p hp => (hgood p hp).some_
    have hcount := Pm.hyph_len pp wd fun p hp => (hgood p hp).some_
    refine ⟨Nat.zero_le _, fun m nm => ?_⟩
    have s1 : Same H (upd H m (.lst [])) := (Same.refl H).new nm
    have P0 : Pcs C H (upd H m (.lst [])) m [] [] := Pcs.start (Same.refl H) nm
    generalize upd H m (.lst []) = H1 at s1 P0
    refine ⟨_, rfl, _, rfl, l, a, qp, pp, wd, rfl, hP.same s1, hgood, s1.seq ha, hlen, fun H2 pl s2 fpl hpl => ?_⟩
    generalize Kh455.hyphenate pp wd = pos at due hris hin hcount hpl
    have P1 := P0.later s2
    have npl : pl ≠ m := fun z => by
      rw [z, P0.at_.lst] at fpl
      cases fpl
    refine ⟨pl, rfl, ⟨_, SqL.of hpl⟩, for_list (K := K) (a := pl) (xs := vn pos)
      (fun i σ H' => ∃ (qs : List P3) (ps : List Kh455.Piece) (st : Nat) (x : Option V), σ = [some (.ref l), some (.ref a), some (.str (js jt)), some (.ref m), some (.int st), x] ∧ Pcs C H H' m qs ps ∧ H' pl = some (.lst (vn pos)) ∧ st ≤ wd.length ∧
        ps.length = i ∧ Pm.Rising st (pos.drop i) ∧ Kh455.partPieces pp wd jt = ps ++ Pm.cuts jt st (pos.drop i) (wd.drop st))
      ⟨[], [], 0, none, rfl, P1, hpl, Nat.zero_le _, rfl, hris, due⟩ (fun i σ H' _ ⟨_, _, _, _, _, _, h, _⟩ => SqL.of h) ?_ ?_⟩
    · rintro i x σ H' hi ⟨qs, ps, st, x5, rfl, Q1, hpl', hst, hlen2, hr', hdue⟩
      obtain ⟨p, hp, rfl⟩ := vn_of hi
      have hil : i < pos.length := (List.getElem?_eq_some_iff.mp hp).1
      have hdrop : pos.drop i = p :: pos.drop (i + 1) := by
        obtain ⟨h1, h2⟩ := List.getElem?_eq_some_iff.mp hp
        rw [← h2]
        exact List.drop_eq_getElem_cons h1
      rw [hdrop] at hr' hdue
      obtain ⟨hsp, hr''⟩ := hr'
      have hpw := hin p (List.mem_of_getElem? hp)
      have sa := (Q1.same).seq ha
      refine ⟨_, rfl, .inl ⟨rfl, _, SqL.of Q1.at_.lst⟩, _, rfl, _, rfl, _, rfl, _, rfl, _, rfl, a, _, rfl, sa, fun c nc => ?_⟩
      have s3 : Same H' (upd H' c (.lst (cutV (vn wd) (some (st : Int)) (some (p : Int))))) := (Same.refl H').new nc
      have hc : upd H' c (.lst (cutV (vn wd) (some (st : Int)) (some (p : Int)))) c = some (.lst (vn ((wd.drop st).take (p - st)))) := by
        rw [upd_same, cut_any wd st p hst]
      generalize upd H' c (.lst (cutV (vn wd) (some (st : Int)) (some (p : Int)))) = H3 at s3 hc
      intro x dx nx ndx ne
      refine ⟨x, dx, c, "hyphen", rfl, upd_same, fun H4 hx hb => ⟨rfl, ?_⟩⟩
      have s4 : Same H3 H4 := fun b o e => by
        have bx : b ≠ x := ne_of_none e nx
        have bdx : b ≠ dx := ne_of_none e ndx
        rw [hb b bx, upd_ne bx, upd_ne bdx]
        exact e
      have made : PieceAt C H4 (x, dx, c) ⟨(wd.drop st).take (p - st), .hyphen⟩ := ⟨hx, s4 _ _ hc⟩
      have offs : ∀ b, H' b ≠ none → P3.off (x, dx, c) b := fun b hne => by
        refine ⟨fun z => ?_, fun z => ?_⟩
        · have z' : x = b := z
          rw [← z'] at hne
          exact hne (s3.free nx)
        · have z' : c = b := z
          rw [← z'] at hne
          exact hne nc
      have hl4 := s4 _ _ (s3 _ _ Q1.at_.lst)
      refine ⟨m, _, _, rfl, rfl, hl4, (by rw [refs3, List.length_map, Q1.at_.len]; omega), ?_⟩
      refine ⟨_, rfl, qs ++ [(x, dx, c)], ps ++ [⟨(wd.drop st).take (p - st), .hyphen⟩], p, some (.int p), rfl, Q1.more (s3.trans s4) made offs, ?_, (by omega), (by simp [hlen2]), hr'', ?_⟩
      · rw [upd_ne npl]
        exact s4 _ _ (s3 _ _ hpl')
      · rw [hdue, List.append_assoc]
        show ps ++ (_ :: _) = ps ++ ([_] ++ _)
        rw [List.drop_drop, show st + (p - st) = p by omega]
        rfl
    · rintro σ H' ⟨qs, ps, st, x5, rfl, Q1, hpl', hst, hlen2, hr', hdue⟩
      rw [vn_len] at hlen2 hdue
      have e0 : pos.drop pos.length = [] := List.drop_eq_nil_of_le (Nat.le_refl _)
      rw [e0] at hdue
      have sa := (Q1.same).seq ha
      refine ⟨_, rfl, .inl ⟨rfl, _, SqL.of Q1.at_.lst⟩, _, rfl, _, rfl, _, rfl, a, _, rfl, sa, fun c nc => ?_⟩
      have s3 : Same H' (upd H' c (.lst (cutV (vn wd) (some (st : Int)) none))) := (Same.refl H').new nc
      have hc : upd H' c (.lst (cutV (vn wd) (some (st : Int)) none)) c = some (.lst (vn (wd.drop st))) := by
        rw [upd_same, cut_from wd st hst]
      generalize upd H' c (.lst (cutV (vn wd) (some (st : Int)) none)) = H3 at s3 hc
      refine ⟨_, rfl, ?_⟩
      intro x dx nx ndx ne
      refine ⟨x, dx, c, js jt, rfl, upd_same, fun H4 hx hb => ⟨rfl, ?_⟩⟩
      have s4 : Same H3 H4 := fun b o e => by
        have bx : b ≠ x := ne_of_none e nx
        have bdx : b ≠ dx := ne_of_none e ndx
        rw [hb b bx, upd_ne bx, upd_ne bdx]
        exact e
      have made : PieceAt C H4 (x, dx, c) ⟨wd.drop st, jt⟩ := ⟨hx, s4 _ _ hc⟩
      have offs : ∀ b, H' b ≠ none → P3.off (x, dx, c) b := fun b hne => by
        refine ⟨fun z => ?_, fun z => ?_⟩
        · have z' : x = b := z
          rw [← z'] at hne
          exact hne (s3.free nx)
        · have z' : c = b := z
          rw [← z'] at hne
          exact hne nc
      have hl4 := s4 _ _ (s3 _ _ Q1.at_.lst)
      refine ⟨m, _, _, rfl, rfl, hl4, (by rw [refs3, List.length_map, Q1.at_.len]; omega), ?_⟩
      refine ⟨_, rfl, k _ m (qs ++ [(x, dx, c)]) ?_⟩
      rw [hdue]
      exact Q1.more (s3.trans s4) made offs
theorem scPcWord : FnScope ["patterns", "word", "parts", "pieces", "part"] ["patterns", "word"] (defScope sPcWord) := ⟨rfl, rfl, rfl, by decide +kernel, rfl, by decide +kernel, by decide +kernel⟩
theorem refs3_len (qs : List P3) : (refs3 qs).length = qs.length := List.length_map _
/-- so many pieces at most -/
theorem Pcs.few {C l : Addr} {H0 H : Hp} {qs : List P3} {ps : List Kh455.Piece} (x : Pcs C H0 H l qs ps) (h : ∀ p ∈ ps, p.content ≠ []) : qs.length ≤ Pm.letters ps := by
  rw [x.at_.len]
  exact Pm.count_le ps h
theorem ok_pcWord {CT C : Addr} (F : Fun K "pieces_of_word" "pieces_of_word" sPcWord f fd) (T : TPc K mg C) (DA : Def P w K mg base CX0 2 "parts_of" ["word"] (spParts K)) (DP : Def P w K mg base CX0 8 "pieces_of_part" ["patterns", "part", "last_joint"] (spPcPart K CT C)) :
    FnOk P w K mg base CX0 10 f fd ["patterns", "word"] (spPcWord K CT C) := by
  refine F.ok scPcWord (fun vs H Q E h => ?_) (fun cdv A outer s H vs Q E hr h => ?_)
  · obtain ⟨l, a, qp, pp, wd, rfl, _⟩ := h
    rfl
  · have hr8 : Room 8 _ := hr.mono (by decide)
    have hr2 : Room 2 _ := hr.mono (by decide)
    refine ⟨_, pss_cons (ps_set (i := 2) scPcWord.nd rfl (Or.inl rfl) (pe_d DA hr2 (by exact (pa_cons (pv 1) pa_nil))))
      (pss_cons (ps_set (i := 3) scPcWord.nd rfl (Or.inl rfl) (pe_lst pa_nil))
      (pss_cons (ps_for PassesOwn.never rfl (pi_list (pe_slice sl_list (pv 2) po_none (po_some (pe_un un_neg pe_int)))) (pg_name (i := 4) scPcWord.nd rfl (Or.inl rfl))
        (pss_one (ps_expr (pe_bm PySem.F.plainAttrs_list PySem.F.slot_list_extend PySem.F.type_list_extend mt_extend (pv 3) (pa_cons (pe_d DP hr8 (by exact (pa_cons (pv 0) (pa_cons (pv 4) (pa_cons (pe_gs T.pj) pa_nil))))) pa_nil)))))
      (pss_cons (ps_expr (pe_bm PySem.F.plainAttrs_list PySem.F.slot_list_extend PySem.F.type_list_extend mt_extend (pv 3) (pa_cons (pe_d DP hr8 (by exact (pa_cons (pv 0) (pa_cons (pe_ix ix_list (pv 2) (pe_un un_neg pe_int) (fun _ _ => rfl)) (pa_cons (pe_gs T.sj) pa_nil))))) pa_nil)))
      (pss_one (ps_ret (pv 3)))))), ?_⟩
    obtain ⟨l, a, qp, pp, wd, rfl, hP, hgood, ha, hlen, hne, k⟩ := h
    have big : 900000 < sizeLine := by decide
    have goods : ∀ p ∈ pp, p.letters ≠ [] := fun p hp => (hgood p hp).some_
    refine ⟨_, rfl, a, wd, rfl, ha, (by omega), fun H1 pl as s1 L => ?_⟩
    obtain ⟨fr, la, hfl⟩ := Pm.front_last (Pm.split_full wd)
    have due := Pm.wordPieces_eq pp wd hfl
    have sizes_ := Pm.split_parts wd
    have sum_ := Pm.split_sum wd
    rw [hfl] at L sizes_ sum_
    obtain ⟨as1, a1, has⟩ : ∃ as1 a1, as = as1 ++ [a1] := by
      have ne : as ≠ [] := fun z => by
        have := L.len
        rw [z] at this
        simp at this
      exact ⟨as.dropLast, as.getLast ne, (List.dropLast_concat_getLast ne).symm⟩
    subst has
    have hlen1 : as1.length = fr.length := by
      have := L.len
      simpa using this
    refine ⟨Nat.zero_le _, fun m nm => ?_⟩
    have P0 : Pcs C H (upd H1 m (.lst [])) m [] [] := Pcs.start s1 nm
    have L0 : Lists (upd H1 m (.lst [])) pl (as1 ++ [a1]) (fr ++ [la]) := L.same ((Same.refl H1).new nm)
    have pne : pl ≠ m := ne_of_none L.lst nm
    have ane : m ∉ as1 ++ [a1] := fun z => by
      obtain ⟨j, hj, e⟩ := List.getElem_of_mem z
      have e1' : (as1 ++ [a1])[j]? = some m := by rw [List.getElem?_eq_getElem hj, e]
      have hj2 : j < (fr ++ [la]).length := by rw [← L.len]; exact hj
      have z2 := L.at_ j m _ e1' (List.getElem?_eq_getElem hj2)
      rw [nm] at z2
      cases z2
    generalize upd H1 m (.lst []) = H2 at P0 L0
    refine ⟨_, rfl, _, rfl, _, rfl, pl, _, rfl, SqL.of L0.lst, fun c nc => ?_⟩
    have hcut : cutV ((as1 ++ [a1]).map V.ref) none (some (-1)) = as1.map V.ref := by
      rw [cut_front, List.map_append]
      exact List.dropLast_concat
    have s3 : Same H2 (upd H2 c (.lst (cutV ((as1 ++ [a1]).map V.ref) none (some (-1))))) := (Same.refl H2).new nc
    have hc : upd H2 c (.lst (cutV ((as1 ++ [a1]).map V.ref) none (some (-1)))) c = some (.lst (as1.map V.ref)) := by
      rw [upd_same, hcut]
    have cne : c ≠ m := (ne_of_none P0.at_.lst nc).symm
    have P1 := P0.later s3
    have L1 := L0.same s3
    generalize upd H2 c (.lst (cutV ((as1 ++ [a1]).map V.ref) none (some (-1)))) = H3 at s3 hc P1 L1
    have small : ∀ i, Pm.letters ((fr.take i).flatMap fun p => Kh455.partPieces pp p .plain) + la.length ≤ wd.length := fun i => by
      rw [Pm.flat_letters _ fun p => Pm.partPieces_letters pp p .plain]
      have e1 : Pm.sizes fr = Pm.sizes (fr.take i) + Pm.sizes (fr.drop i) := by
        rw [← Pm.sizes_cat, List.take_append_drop]
      have e2 : Pm.sizes [la] = la.length := by simp [Pm.sizes]
      rw [Pm.sizes_cat] at sum_
      omega
    have full : ∀ i, ∀ p ∈ (fr.take i).flatMap (fun p => Kh455.partPieces pp p .plain), p.content ≠ [] := fun i p hp => by
      obtain ⟨q, hq, z⟩ := List.mem_flatMap.mp hp
      exact Pm.partPieces_full pp q .plain goods ((sizes_ q (List.mem_append_left _ (List.mem_of_mem_take hq))).2 hne) p z
    refine ⟨c, rfl, ⟨_, SqL.of hc⟩, for_list (K := K) (a := c) (xs := as1.map V.ref)
      (fun i σ H' => ∃ (qs : List P3) (x : Option V), σ = [some (.ref l), some (.ref a), some (.ref pl), some (.ref m), x] ∧ Pcs C H H' m qs ((fr.take i).flatMap fun p => Kh455.partPieces pp p .plain) ∧ H' c = some (.lst (as1.map V.ref)) ∧ Lists H' pl (as1 ++ [a1]) (fr ++ [la]))
      ⟨[], none, rfl, P1, hc, L1⟩ (fun i σ H' _ ⟨_, _, _, _, h, _⟩ => SqL.of h) ?_ ?_⟩
    · rintro i x σ H' hi ⟨qs, x4, rfl, Q1, hc', L'⟩
      rw [List.getElem?_map] at hi
      cases ea : as1[i]? with
      | none =>
        rw [ea] at hi
        cases hi
      | some ai =>
        rw [ea] at hi
        cases hi
        have hil : i < as1.length := (List.getElem?_eq_some_iff.mp ea).1
        have hif : i < fr.length := by omega
        have hw := List.getElem?_eq_getElem hif
        have hmem : fr[i] ∈ fr := List.getElem_mem hif
        have takes : (fr.take (i + 1)).flatMap (fun p => Kh455.partPieces pp p .plain) = (fr.take i).flatMap (fun p => Kh455.partPieces pp p .plain) ++ Kh455.partPieces pp fr[i] .plain := by
          rw [take_more hw, List.flatMap_append]
          simp
        have hpart := L'.at_ i ai fr[i] (by rw [List.getElem?_append_left hil]; exact ea) (by rw [List.getElem?_append_left hif]; exact hw)
        have hsz := sizes_ fr[i] (List.mem_append_left _ hmem)
        generalize fr[i] = part at *
        refine ⟨_, rfl, .inl ⟨rfl, _, SqL.of Q1.at_.lst⟩, _, rfl, _, rfl, l, ai, qp, pp, part, .plain, rfl, hP.same Q1.same, hgood, SqL.of hpart, (by omega), fun H4 m2 qs2 Y => ?_⟩
        have f1 := Q1.few (full i)
        have f2 := Y.few (Pm.partPieces_full pp part .plain goods (hsz.2 hne))
        rw [Pm.partPieces_letters] at f2
        have f3 := small i
        refine ⟨m, m2, _, _, rfl, rfl, Y.same _ _ Q1.at_.lst, Y.at_.lst, (by rw [refs3_len, refs3_len]; omega), ?_⟩
        refine ⟨qs ++ qs2, some (.ref ai), rfl, ?_, ?_, ?_⟩
        · rw [takes]
          exact Q1.extend Y
        · rw [upd_ne cne]
          exact Y.same _ _ hc'
        · exact (L'.same Y.same).beside pne ane
    · rintro σ H' ⟨qs, x4, rfl, Q1, hc', L'⟩
      rw [List.length_map, hlen1, List.take_length] at Q1
      have hlast := L'.at_ as1.length a1 la (by simp) (by rw [hlen1]; simp)
      have hsz := sizes_ la (List.mem_append_right _ List.mem_cons_self)
      refine ⟨_, rfl, .inl ⟨rfl, _, SqL.of Q1.at_.lst⟩, _, rfl, _, rfl, _, rfl, pl, _, -1, .ref a1, rfl, rfl, SqL.of L'.lst, ?_, l, a1, qp, pp, la, .space, rfl, hP.same Q1.same, hgood, SqL.of hlast, (by omega), fun H4 m2 qs2 Y => ?_⟩
      · rw [List.map_append]
        exact atI_last _ _
      · have fulls := full fr.length
        rw [List.take_length] at fulls
        have f1 := Q1.few fulls
        have f2 := Y.few (Pm.partPieces_full pp la .space goods (hsz.2 hne))
        rw [Pm.partPieces_letters] at f2
        have f3 := small fr.length
        rw [List.take_length] at f3
        refine ⟨m, m2, _, _, rfl, rfl, Y.same _ _ Q1.at_.lst, Y.at_.lst, (by rw [refs3_len, refs3_len]; omega), ?_⟩
        refine ⟨_, rfl, k _ m (qs ++ qs2) ?_⟩
        rw [due]
        exact Q1.extend Y
theorem scPieces : FnScope ["patterns", "text", "pieces", "word"] ["patterns", "text"] (defScope sPieces) := ⟨rfl, rfl, rfl, by decide +kernel, rfl, by decide +kernel, by decide +kernel⟩
theorem ok_pieces {CT C : Addr} (F : Fun K "pieces_of" "pieces_of" sPieces f fd) (T : TPc K mg C) (DW : Def P w K mg base CX0 4 "words_of" ["text"] (spWords K)) (DP : Def P w K mg base CX0 10 "pieces_of_word" ["patterns", "word"] (spPcWord K CT C)) :
    FnOk P w K mg base CX0 12 f fd ["patterns", "text"] (spPieces K CT C) := by
  refine F.ok scPieces (fun vs H Q E h => ?_) (fun cdv A outer s H vs Q E hr h => ?_)
  · obtain ⟨l, a, qp, pp, wd, rfl, _⟩ := h
    rfl
  · have hr10 : Room 10 _ := hr.mono (by decide)
    have hr4 : Room 4 _ := hr.mono (by decide)
    refine ⟨_, pss_cons (ps_set (i := 2) scPieces.nd rfl (Or.inl rfl) (pe_lst pa_nil))
      (pss_cons (ps_for PassesOwn.never rfl (pi_list (pe_d DW hr4 (by exact (pa_cons (pv 1) pa_nil)))) (pg_name (i := 3) scPieces.nd rfl (Or.inl rfl))
        (pss_one (ps_expr (pe_bm PySem.F.plainAttrs_list PySem.F.slot_list_extend PySem.F.type_list_extend mt_extend (pv 2) (pa_cons (pe_d DP hr10 (by exact (pa_cons (pv 0) (pa_cons (pv 3) pa_nil)))) pa_nil)))))
      (pss_one (ps_ret (pv 2)))), ?_⟩
    obtain ⟨l, a, qp, pp, t, rfl, hP, hgood, ha, hlen, k⟩ := h
    have big : 900000 < sizeLine := by decide
    have goods : ∀ p ∈ pp, p.letters ≠ [] := fun p hp => (hgood p hp).some_
    refine ⟨Nat.zero_le _, fun m nm => ?_⟩
    have s1 : Same H (upd H m (.lst [])) := (Same.refl H).new nm
    have P0 : Pcs C H (upd H m (.lst [])) m [] [] := Pcs.start (Same.refl H) nm
    generalize upd H m (.lst []) = H1 at s1 P0
    refine ⟨_, rfl, a, t, rfl, s1.seq ha, (by omega), fun H2 pl as s2 fpl fas L => ?_⟩
    have P1 := P0.later s2
    have wfull := Pm.words_full t
    have wsum := Pm.words_sum t
    have wshort := (Pm.words_short t).2
    have due : Kh455.pieces pp t = (Kh455.wordsOf t).flatMap (Kh455.wordPieces pp) := rfl
    generalize Kh455.wordsOf t = ws at L wfull wsum wshort due
    have pne : pl ≠ m := fun z => by
      rw [z, P0.at_.lst] at fpl
      cases fpl
    have ane : m ∉ as := fun z => by
      have := fas m z
      rw [P0.at_.lst] at this
      cases this
    refine ⟨pl, rfl, ⟨_, SqL.of L.lst⟩, for_list (K := K) (a := pl) (xs := as.map V.ref)
      (fun i σ H' => ∃ (qs : List P3) (x : Option V), σ = [some (.ref l), some (.ref a), some (.ref m), x] ∧ Pcs C H H' m qs ((ws.take i).flatMap (Kh455.wordPieces pp)) ∧ Lists H' pl as ws)
      ⟨[], none, rfl, P1, L⟩ (fun i σ H' _ ⟨_, _, _, _, h⟩ => SqL.of h.lst) ?_ ?_⟩
    · rintro i x σ H' hi ⟨qs, x4, rfl, Q1, L'⟩
      rw [List.getElem?_map] at hi
      cases ea : as[i]? with
      | none =>
        rw [ea] at hi
        cases hi
      | some ai =>
        rw [ea] at hi
        cases hi
        have hif : i < ws.length := by
          rw [← L'.len]
          exact (List.getElem?_eq_some_iff.mp ea).1
        have hw := List.getElem?_eq_getElem hif
        have hmem : ws[i] ∈ ws := List.getElem_mem hif
        have takes : (ws.take (i + 1)).flatMap (Kh455.wordPieces pp) = (ws.take i).flatMap (Kh455.wordPieces pp) ++ Kh455.wordPieces pp ws[i] := by
          rw [take_more hw, List.flatMap_append]
          simp
        have hword := L'.at_ i ai ws[i] ea hw
        have wf := wfull ws[i] hmem
        have wl := wshort ws[i] hmem
        have full : ∀ p ∈ (ws.take i).flatMap (Kh455.wordPieces pp), p.content ≠ [] := fun p hp => by
          obtain ⟨q, hq, z⟩ := List.mem_flatMap.mp hp
          exact Pm.wordPieces_full pp q goods (wfull q (List.mem_of_mem_take hq)) p z
        have f1 := Q1.few full
        have f4 : Pm.letters ((ws.take i).flatMap (Kh455.wordPieces pp)) ≤ t.length := by
          rw [Pm.flat_letters _ (Pm.wordPieces_letters pp)]
          have e1 : Pm.sizes ws = Pm.sizes (ws.take i) + Pm.sizes (ws.drop i) := by
            rw [← Pm.sizes_cat, List.take_append_drop]
          omega
        generalize ws[i] = wd at *
        refine ⟨_, rfl, .inl ⟨rfl, _, SqL.of Q1.at_.lst⟩, _, rfl, _, rfl, l, ai, qp, pp, wd, rfl, hP.same Q1.same, hgood, SqL.of hword, (by omega), wf, fun H4 m2 qs2 Y => ?_⟩
        have f2 := Y.few (Pm.wordPieces_full pp wd goods wf)
        rw [Pm.wordPieces_letters] at f2
        refine ⟨m, m2, _, _, rfl, rfl, Y.same _ _ Q1.at_.lst, Y.at_.lst, (by rw [refs3_len, refs3_len]; omega), ?_⟩
        refine ⟨qs ++ qs2, some (.ref ai), rfl, ?_, (L'.same Y.same).beside pne ane⟩
        rw [takes]
        exact Q1.extend Y
    · rintro σ H' ⟨qs, x4, rfl, Q1, L'⟩
      rw [List.length_map, L'.len, List.take_length, ← due] at Q1
      exact ⟨_, rfl, k H' m qs Q1⟩
end
end Pl

namespace Pm
/-- the lower bytes, and what is above them -/
def lowBytes (c : Nat) : Nat → List Nat × Nat
  | 0 => ([], c)
  | m + 1 => ((128 + (lowBytes c m).2 % 64) :: (lowBytes c m).1, (lowBytes c m).2 / 64)
theorem low_len (c : Nat) : ∀ m, (lowBytes c m).1.length = m
  | 0 => rfl
  | m + 1 => by
    show (lowBytes c m).1.length + 1 = _
    rw [low_len c m]
theorem wSize_cases (c : Nat) : wSize c = 2 ∨ wSize c = 3 ∨ wSize c = 4 := by
  unfold wSize
  split
  · exact .inl rfl
  · split
    · exact .inr (.inl rfl)
    · exact .inr (.inr rfl)
theorem encode_low {c : Nat} (h : ¬ c < 128) : Kh450.encodeUtf8 c = (leads (wSize c) + (lowBytes c (wSize c - 1)).2) :: (lowBytes c (wSize c - 1)).1 := by
  rw [encode_eq, if_neg h]
  rcases wSize_cases c with e | e | e <;> rw [e] <;> rfl
end Pm
namespace Pl
open PySem PySem.Spec PyProof.Rows L2
/-! ### bytes are written -/
/-- how far the second loop of write_sequence is -/
def longAt (p : Addr) (H : Hp) : Nat := match H p with
  | some (HO.lst xs) => xs.length
  | _ => 0
/-- how many bytes the first loop has found -/
def sizeAt (σ : L2.St) : Nat := match σ[1]? with
  | some (some (V.int i)) => i.toNat
  | _ => 0
def spWriteSeq : Sp := fun vs H Q _ => ∃ c : Nat, vs = [.int c] ∧ ∀ (H' : Hp) (p : Addr), Same H H' → H p = none → H' p = some (.lst (vn (Kh450.encodeUtf8 c))) → Q (.ref p) H'
def spWrite (K : PySem.W.Frag) : Sp := fun vs H Q _ => ∃ (a : Addr) (t : List Nat), vs = [.ref a] ∧ SqL K H a (vn t) ∧ t.length ≤ 100000 ∧ ∀ (H' : Hp) (p : Addr), Same H H' → H p = none → H' p = some (.lst (vn (Kh450.encodeAll t))) → Q (.ref p) H'
section
variable {P : Program} {w : World} {K : PySem.W.Frag} {mg : Str → Option Value} {base : Heap} {f : Addr} {fd : FuncData}
end
end Pl

namespace Pl
open PySem PySem.Spec PyProof.Rows L2
/-- what len(xs) asks -/
abbrev rLen (K : PySem.W.Frag) : List V → Hp → VK → Prop := fun xs H Q => ∃ p ys, xs = [.ref p] ∧ (SqL K H p ys ∨ SqT K H p ys) ∧ Q (.int ys.length) H
theorem vn_cat (a b : List Nat) : vn a ++ vn b = vn (a ++ b) := (List.map_append).symm
def spCheck (CO : Addr) : Sp := fun vs H Q E => ∃ n : Nat, vs = [.int n] ∧ (¬ (10 ≤ n ∧ n ≤ 80) → ∀ d, H d = none → E (.ref CO) (some d) (upd H d (.xd (fAns (-22))))) ∧ ((10 ≤ n ∧ n ≤ 80) → Q .non H)
/-- the lines, joined and written, their number of bytes ahead -/
def spAnswer (K : PySem.W.Frag) : Sp := fun vs H Q _ => ∃ (l : Addr) (as : List Addr) (ls : List (List Nat)), vs = [.ref l] ∧ Lists H l as ls ∧ Pm.sizes ls ≤ 40000 ∧ ls.length ≤ 40000 ∧
  ∀ (H' : Hp) (p : Addr), Same H H' → H' p = some (.lst (vn ((Kh450.encodeAll (Kh450.joinTexts [10] ls)).length :: Kh450.encodeAll (Kh450.joinTexts [10] ls)))) → Q (.ref p) H'
def spLine (C : Addr) : Sp := fun vs H Q _ => ∃ (l : Addr) (qs : List P3) (ps : List Kh455.Piece), vs = [.ref l] ∧ PcsAt C H l qs ps ∧ ps ≠ [] ∧ Pm.letters ps ≤ 20000 ∧ ps.length ≤ 20000 ∧
  ∀ (H' : Hp) (p : Addr), Same H H' → H p = none → H' p = some (.lst (vn (Kh455.lineText ps))) → Q (.ref p) H'
def spLines (K : PySem.W.Frag) (C : Addr) : Sp := fun vs H Q _ => ∃ (l c : Addr) (qs : List P3) (ps : List Kh455.Piece) (counts : List Nat), vs = [.ref l, .ref c] ∧ PcsAt C H l qs ps ∧ SqL K H c (vn counts) ∧ Pm.Fits counts ps.length ∧ Pm.letters ps ≤ 10000 ∧ ps.length ≤ 10000 ∧
  ∀ (H' : Hp) (p : Addr) (as : List Addr), Same H H' → Lists H' p as ((Kh455.takeLines counts ps).map Kh455.lineText) → Q (.ref p) H'
theorem js_is (j k : Kh455.Joint) : decide (V.str (js j) = V.str (js k)) = decide (j = k) := by
  cases j <;> cases k <;> decide +kernel
theorem fPiece_ch (ca : Addr) (z : Str) : (fPiece ca z).lookup ("characters" : Str) = some (.ref ca) := by
  have e : (("characters" : Str) == ("characters" : Str)) = true := beq_self_eq_true _
  simp only [fPiece, List.lookup, e]
theorem fPiece_jt (ca : Addr) (z : Str) : (fPiece ca z).lookup ("joint" : Str) = some (.str z) := by
  have e : (("joint" : Str) == ("characters" : Str)) = false := by decide +kernel
  have e2 : (("joint" : Str) == ("joint" : Str)) = true := beq_self_eq_true _
  simp only [fPiece, List.lookup, e, e2]
theorem cut_refs (qs : List P3) (i n : Nat) (h : i ≤ qs.length) : cutV (refs3 qs) (some (i : Int)) (some ((i + n : Nat) : Int)) = refs3 ((qs.drop i).take n) := by
  unfold cutV
  rw [HT.sIx_nat, HT.sIx_nat, refs3_len, Nat.min_eq_left h]
  unfold refs3
  rw [List.map_take, List.map_drop]
  apply List.ext_getElem?
  intro k
  rw [List.getElem?_take, List.getElem?_take, List.getElem?_drop]
  by_cases h1 : k < n
  · rw [if_pos h1]
    by_cases h2 : k < min (i + n) qs.length - i
    · rw [if_pos h2]
    · rw [if_neg h2, List.getElem?_eq_none]
      rw [List.length_map]
      omega
  · rw [if_neg h1, if_neg (by omega)]
section
variable {P : Program} {w : World} {K : PySem.W.Frag} {mg : Str → Option Value} {base : Heap} {f : Addr} {fd : FuncData}
theorem scOorI : FnScope ["self"] ["self"] (defScope sOorI) := ⟨rfl, rfl, rfl, by decide +kernel, rfl, by decide +kernel, by decide +kernel⟩
theorem ok_oorI {C : Addr} (F : Fun K "__init__" "OutOfRange.__init__" sOorI f fd) (T : ErrC K C) (no : PySem.W.findIn K (.ref C) "answer" = some none) (B : BaseI P w K mg base) : FnOk P w K mg base CX0 3 f fd ["self"] (spErrI C (-22)) := by
  obtain ⟨CR, fR, mc, fdR, hm, r, c, kp, hb, G⟩ := B.ini
  refine F.ok scOorI (fun vs H Q E h => ?_) (fun cdv A outer s H vs Q E hr h => ⟨_, pss_one (ps_expr (pe_base r c G (hr.mono (by decide)) kp hb pass0 rfl hm (by exact (pa_cons (pv 0) (pa_cons (pe_un un_neg pe_int) pa_nil))))), ?_⟩)
  · obtain ⟨a, rfl, _⟩ := h
    rfl
  · obtain ⟨a, rfl, ha, k⟩ := h
    exact ⟨_, rfl, 22, rfl, a, C, -22, rfl, T, no, ha, k⟩
theorem scCheck : FnScope ["width"] ["width"] (defScope sCheck) := ⟨rfl, rfl, rfl, by decide +kernel, rfl, by decide +kernel, by decide +kernel⟩
theorem ok_check {CO : Addr} (F : Fun K "check_width" "check_width" sCheck f fd) (TE : Err P w K mg base "OutOfRange" CO (-22)) (h1 : IntG mg "LEAST_WIDTH" 10) (h2 : IntG mg "GREATEST_WIDTH" 80) : FnOk P w K mg base (L2.CX P w) 6 f fd ["width"] (spCheck CO) := by
  refine F.okX scCheck (fun vs H Q E h => ?_) (fun cdv A outer s H vs Q E hr h => ?_)
  · obtain ⟨n, rfl, _⟩ := h
    rfl
  · have hr4 : Room 4 _ := hr.mono (by decide)
    refine ⟨_, pss_one (ps_if (pt_not (pt_chain op_le op_le (pe_gi h1) (pv 0) (pe_gi h2))) (pss_one (ps_refuse rfl TE hr4 (takes_of rfl rfl rfl rfl))) pss_nil), ?_⟩
    obtain ⟨n, rfl, kN, kS⟩ := h
    refine le_le_test (lo := 10) (hi := 80) rfl ?_
    by_cases hn : 10 ≤ n ∧ n ≤ 80
    · rw [decide_eq_true hn]
      exact iteF (kS hn)
    · rw [decide_eq_false hn]
      exact iteT (kN hn)
theorem scLine : FnScope ["pieces", "text", "piece", "last"] ["pieces"] (defScope sLine) := ⟨rfl, rfl, rfl, by decide +kernel, rfl, by decide +kernel, by decide +kernel⟩
theorem ok_line {C : Addr} (F : Fun K "line_text" "line_text" sLine f fd) (T : TPc K mg C) (hB : IntG mg "BLANK" 32) : FnOk P w K mg base CX0 2 f fd ["pieces"] (spLine C) := by
  refine F.ok scLine (fun vs H Q E h => ?_) (fun cdv A outer s H vs Q E hr h => ?_)
  · obtain ⟨l, qs, ps, rfl, _⟩ := h
    rfl
  · refine ⟨_, pss_cons (ps_set (i := 1) scLine.nd rfl (Or.inl rfl) (pe_lst pa_nil))
      (pss_cons (ps_for PassesOwn.never rfl (pi_list (pe_slice sl_list (pv 0) po_none (po_some (pe_un un_neg pe_int)))) (pg_name (i := 2) scLine.nd rfl (Or.inl rfl))
        (pss_cons (ps_expr (pe_bm PySem.F.plainAttrs_list PySem.F.slot_list_extend PySem.F.type_list_extend mt_extend (pv 1) (pa_cons (pe_fld (pv 2) rfl) pa_nil)))
          (pss_one (ps_if (pt_cmpR op_eq (pe_fld (pv 2) rfl) (pe_gs T.sj) (nomark _)) (pss_one (ps_expr (pe_bm PySem.F.plainAttrs_list PySem.F.slot_list_append PySem.F.type_list_append mt_append (pv 1) (pa_cons (pe_gi hB) pa_nil)))) pss_nil))))
      (pss_cons (ps_set (i := 3) scLine.nd rfl (Or.inl rfl) (pe_ix ix_list (pv 0) (pe_un un_neg pe_int) (fun _ _ => rfl)))
      (pss_cons (ps_expr (pe_bm PySem.F.plainAttrs_list PySem.F.slot_list_extend PySem.F.type_list_extend mt_extend (pv 1) (pa_cons (pe_fld (pv 3) rfl) pa_nil)))
      (pss_cons (ps_if (pt_cmpR op_eq (pe_fld (pv 3) rfl) (pe_gs T.hj) (nomark _)) (pss_one (ps_expr (pe_bm PySem.F.plainAttrs_list PySem.F.slot_list_append PySem.F.type_list_append mt_append (pv 1) (pa_cons (pe_gi T.hy) pa_nil)))) pss_nil)
      (pss_one (ps_ret (pv 1))))))), ?_⟩
    obtain ⟨l, qs, ps, rfl, hP, hne, hlet, hct, k⟩ := h
    have big : 1000000 ≤ sizeLine := by decide
    obtain ⟨fr, la, hfl⟩ : ∃ fr la, ps = fr ++ [la] := ⟨ps.dropLast, ps.getLast hne, (List.dropLast_concat_getLast hne).symm⟩
    subst hfl
    obtain ⟨qf, ql, hqf⟩ : ∃ qf ql, qs = qf ++ [ql] := by
      have ne : qs ≠ [] := fun z => by
        have := hP.len
        rw [z] at this
        simp at this
      exact ⟨qs.dropLast, qs.getLast ne, (List.dropLast_concat_getLast ne).symm⟩
    subst hqf
    have hlen : qf.length = fr.length := by
      have := hP.len
      simpa using this
    have due := Pm.line_front fr la
    have wlen := Pm.line_len (fr ++ [la])
    have flen : ∀ i, ((fr.take i).flatMap Pm.mid).length ≤ 40000 := fun i => by
      have h1 := Pm.mid_sum (fr.take i)
      have h2 : Pm.letters (fr ++ [la]) = Pm.letters (fr.take i) + Pm.letters (fr.drop i ++ [la]) := by
        rw [← Pm.letters_cat, ← List.append_assoc, List.take_append_drop]
      rw [List.length_take] at h1
      simp only [List.length_append, List.length_cons, List.length_nil] at hct
      omega
    refine ⟨Nat.zero_le _, fun pt npt => ?_⟩
    have s1 : Same H (upd H pt (.lst [])) := (Same.refl H).new npt
    have hpt : upd H pt (.lst []) pt = some (.lst (vn [])) := upd_same
    generalize upd H pt (.lst []) = H1 at s1 hpt
    refine ⟨_, rfl, _, rfl, _, rfl, l, _, rfl, s1.seq (SqL.of hP.lst), fun c nc => ?_⟩
    have hcut : cutV (refs3 (qf ++ [ql])) none (some (-1)) = refs3 qf := by
      rw [cut_front]
      have e : refs3 (qf ++ [ql]) = refs3 qf ++ [.ref ql.1] := List.map_append
      rw [e]
      exact List.dropLast_concat
    have s2 : Same H (upd H1 c (.lst (cutV (refs3 (qf ++ [ql])) none (some (-1))))) := s1.new nc
    have hc : upd H1 c (.lst (cutV (refs3 (qf ++ [ql])) none (some (-1)))) c = some (.lst (refs3 qf)) := by
      rw [upd_same, hcut]
    have hpt2 : upd H1 c (.lst (cutV (refs3 (qf ++ [ql])) none (some (-1)))) pt = some (.lst (vn [])) := by
      rw [upd_ne (ne_of_none hpt nc)]
      exact hpt
    have cne : c ≠ pt := (ne_of_none hpt nc).symm
    generalize upd H1 c (.lst (cutV (refs3 (qf ++ [ql])) none (some (-1)))) = H2 at s2 hc hpt2
    refine ⟨c, rfl, ⟨_, SqL.of hc⟩, for_list (K := K) (a := c) (xs := refs3 qf) (fun i σ H' => ∃ x2 : Option V, σ = [some (.ref l), some (.ref pt), x2, none] ∧ Same H H' ∧ H' c = some (.lst (refs3 qf)) ∧ H' pt = some (.lst (vn ((fr.take i).flatMap Pm.mid))))
      ⟨none, rfl, s2, hc, hpt2⟩ (fun i σ H' _ ⟨_, _, _, h, _⟩ => SqL.of h) ?_ ?_⟩
    · rintro i x σ H' hi ⟨x2, rfl, s3, hc', hpt'⟩
      rw [List.getElem?_map] at hi
      cases eq : qf[i]? with
      | none =>
        rw [eq] at hi
        cases hi
      | some q =>
        rw [eq] at hi
        cases hi
        have hiq : i < qf.length := (List.getElem?_eq_some_iff.mp eq).1
        have hif : i < fr.length := by omega
        have hp := List.getElem?_eq_getElem hif
        have pat := hP.at_ i q fr[i] (by rw [List.getElem?_append_left hiq]; exact eq) (by rw [List.getElem?_append_left hif]; exact hp)
        have takes : (fr.take (i + 1)).flatMap Pm.mid = (fr.take i).flatMap Pm.mid ++ Pm.mid fr[i] := by
          rw [take_more hp, List.flatMap_append]
          simp
        have f1 := flen i
        have f2 := flen (i + 1)
        rw [takes, List.length_append] at f2
        generalize fr[i] = p at *
        generalize (fr.take i).flatMap Pm.mid = acc at *
        have pat3 := pat.same s3
        have lm : p.content.length ≤ (Pm.mid p).length := by
          unfold Pm.mid
          rw [List.length_append]
          exact Nat.le_add_right _ _
        refine ⟨_, rfl, .inl ⟨rfl, _, SqL.of hpt'⟩, _, rfl, q.1, C, q.2.1, _, _, rfl, pat3.ins, T.cl, T.nC, fPiece_ch _ _, pt, q.2.2, _, _, rfl, rfl, hpt', pat3.ch, (by rw [vn_len, vn_len]; omega), ?_⟩
        rw [vn_cat]
        have s4 : Same H (upd H' pt (.lst (vn (acc ++ p.content)))) := s3.own npt
        have hpt4 : upd H' pt (.lst (vn (acc ++ p.content))) pt = some (.lst (vn (acc ++ p.content))) := upd_same
        have hc4 : upd H' pt (.lst (vn (acc ++ p.content))) c = some (.lst (refs3 qf)) := by
          rw [upd_ne cne]
          exact hc'
        generalize upd H' pt (.lst (vn (acc ++ p.content))) = H4 at s4 hpt4 hc4
        have pat4 := pat.same s4
        refine ⟨_, rfl, q.1, C, q.2.1, _, _, rfl, pat4.ins, T.cl, T.nJ, fPiece_jt _ _, rfl, _, rfl, ?_⟩
        by_cases hj : p.joint = .space
        · have em : Pm.mid p = p.content ++ [32] := by
            unfold Pm.mid
            rw [if_pos hj]
          refine if_true_of ((js_is p.joint .space).trans (decide_eq_true hj)) ?_
          refine ⟨_, rfl, .inl ⟨rfl, _, SqL.of hpt4⟩, pt, _, _, rfl, rfl, hpt4, (by rw [vn_len, List.length_append]; omega), ?_⟩
          refine ⟨_, rfl, s4.own npt, ?_, ?_⟩
          · rw [upd_ne cne]
            exact hc4
          · rw [upd_same, takes, em, ← List.append_assoc]
            exact congrArg (fun q => some (HO.lst q)) (vn_snoc (acc ++ p.content) 32)
        · have em : Pm.mid p = p.content := by
            unfold Pm.mid
            rw [if_neg hj, List.append_nil]
          refine if_false_of ((js_is p.joint .space).trans (decide_eq_false hj)) ⟨_, rfl, s4, hc4, ?_⟩
          rw [takes, em]
          exact hpt4
    · rintro σ H' ⟨x2, rfl, s3, hc', hpt'⟩
      rw [refs3_len, hlen, List.take_length] at hpt'
      have pat := hP.at_ fr.length ql la (by rw [← hlen]; simp) (by simp)
      have f1 := flen fr.length
      rw [List.take_length] at f1
      rw [due, List.length_append] at wlen
      simp only [List.length_append, List.length_cons, List.length_nil] at wlen hct
      have e : refs3 (qf ++ [ql]) = refs3 qf ++ [.ref ql.1] := List.map_append
      refine ⟨_, rfl, _, rfl, l, _, -1, .ref ql.1, rfl, rfl, s3.seq (SqL.of hP.lst), ?_, ?_⟩
      · rw [e]
        exact atI_last _ _
      generalize fr.flatMap Pm.mid = acc at *
      have pat3 := pat.same s3
      refine ⟨_, rfl, .inl ⟨rfl, _, SqL.of hpt'⟩, _, rfl, ql.1, C, ql.2.1, _, _, rfl, pat3.ins, T.cl, T.nC, fPiece_ch _ _, pt, ql.2.2, _, _, rfl, rfl, hpt', pat3.ch, (by rw [vn_len, vn_len]; omega), ?_⟩
      rw [vn_cat]
      have s4 : Same H (upd H' pt (.lst (vn (acc ++ la.content)))) := s3.own npt
      have hpt4 : upd H' pt (.lst (vn (acc ++ la.content))) pt = some (.lst (vn (acc ++ la.content))) := upd_same
      generalize upd H' pt (.lst (vn (acc ++ la.content))) = H4 at s4 hpt4
      have pat4 := pat.same s4
      refine ⟨_, rfl, ql.1, C, ql.2.1, _, _, rfl, pat4.ins, T.cl, T.nJ, fPiece_jt _ _, rfl, _, rfl, ?_⟩
      by_cases hj : la.joint = .hyphen
      · rw [if_pos hj] at due
        refine if_true_of ((js_is la.joint .hyphen).trans (decide_eq_true hj)) ?_
        refine ⟨_, rfl, .inl ⟨rfl, _, SqL.of hpt4⟩, pt, _, _, rfl, rfl, hpt4, (by rw [vn_len, List.length_append]; omega), ?_⟩
        refine ⟨_, rfl, k _ pt (s4.own npt) npt ?_⟩
        rw [upd_same, due, ← List.append_assoc]
        exact congrArg (fun q => some (HO.lst q)) (vn_snoc (acc ++ la.content) 45)
      · rw [if_neg hj, List.append_nil] at due
        refine if_false_of ((js_is la.joint .hyphen).trans (decide_eq_false hj)) ⟨_, rfl, k _ pt s4 npt ?_⟩
        rw [due]
        exact hpt4
end
end Pl

namespace Pm
/-- what a line in its width, a page in its height costs -/
def fillC (room size : Nat) (last : Bool) (ex : Nat) : Nat := if room < size then ex * (size - room) else if last = true then 0 else (room - size) ^ 2
theorem lCost_fill (n len : Nat) (j : Kh455.Joint) (last : Bool) : lCost n len j last = fillC n len last 10000 + hyC j := by
  unfold lCost fillC
  split
  · rfl
  · split <;> simp_all
end Pm
namespace Pl
open PySem PySem.Spec PyProof.Rows L2
def spFill : Sp := fun vs H Q _ => ∃ (n len : Nat) (last : Bool) (ex : Nat), vs = [.int n, .int len, .bl last, .int ex] ∧ n ≤ 100000 ∧ len ≤ 100000 ∧ ex ≤ 1000000 ∧ Q (.int (Pm.fillC n len last ex)) H
theorem allowedGo_cons (w : Nat) (p : Kh455.Piece) (r : List Kh455.Piece) (len : Nat) (b : Bool) : Pm.allowedGo w (p :: r) len b = if b = false ∧ w < Pm.shownBy len p then [] else Pm.shownBy len p :: Pm.allowedGo w r (Pm.lenBy len p) false := rfl
def spLineCost : Sp := fun vs H Q _ => ∃ (n len : Nat) (j : Kh455.Joint) (last : Bool), vs = [.int n, .int len, .str (js j), .bl last] ∧ n ≤ 100000 ∧ len ≤ 100000 ∧ Q (.int (Pm.lCost n len j last)) H
def spAllowed (C : Addr) : Sp := fun vs H Q _ => ∃ (n : Nat) (l : Addr) (st : Nat) (qs : List P3) (ps : List Kh455.Piece), vs = [.int n, .ref l, .int st] ∧ PcsAt C H l qs ps ∧ st ≤ ps.length ∧ Pm.letters ps ≤ 10000 ∧ ps.length ≤ 10000 ∧
  ∀ (H' : Hp) (p : Addr), Same H H' → H p = none → H' p = some (.lst (vn (Pm.allowed n (ps.drop st)))) → Q (.ref p) H'
/-- a part of such a list -/
theorem PcsAt.part {C l p : Addr} {H H' : Hp} {qs : List P3} {ps : List Kh455.Piece} (x : PcsAt C H l qs ps) (s : Same H H') (i n : Nat) (hp : H' p = some (.lst (refs3 ((qs.drop i).take n)))) : PcsAt C H' p ((qs.drop i).take n) ((ps.drop i).take n) := by
  refine ⟨hp, ?_, fun k q v e1 e2 => ?_⟩
  · rw [List.length_take, List.length_take, List.length_drop, List.length_drop, x.len]
  · rw [List.getElem?_take] at e1 e2
    by_cases h : k < n
    · rw [if_pos h, List.getElem?_drop] at e1 e2
      exact (x.at_ _ q v e1 e2).same s
    · rw [if_neg h] at e1
      cases e1
section
variable {P : Program} {w : World} {K : PySem.W.Frag} {mg : Str → Option Value} {base : Heap} {f : Addr} {fd : FuncData}
theorem scFill : FnScope ["room", "size", "is_last", "excess_cost"] ["room", "size", "is_last", "excess_cost"] (defScope sFill) := ⟨rfl, rfl, rfl, by decide +kernel, rfl, by decide +kernel, by decide +kernel⟩
theorem ok_fill (F : Fun K "filling_cost" "filling_cost" sFill f fd) : FnOk P w K mg base CX0 1 f fd ["room", "size", "is_last", "excess_cost"] spFill := by
  refine F.ok scFill (fun vs H Q E h => ?_) (fun cdv A outer s H vs Q E hr h => ?_)
  · obtain ⟨n, len, last, ex, rfl, _⟩ := h
    rfl
  · refine ⟨_, pss_cons (ps_if (pt_cmpR op_gt (pv 1) (pv 0) (nomark _)) (pss_one (ps_ret (pe_op op_mul (pv 3) (pe_op op_sub (pv 1) (pv 0))))) pss_nil)
      (pss_cons (ps_if (pt_val (pv 2)) (pss_one (ps_ret pe_int)) pss_nil)
      (pss_one (ps_ret (pe_op op_pow (pe_op op_sub (pv 0) (pv 1)) pe_int)))), ?_⟩
    obtain ⟨n, len, last, ex, rfl, hn, hlen, hex, k⟩ := h
    unfold Pm.fillC at k
    refine ⟨_, rfl, _, rfl, _, _, rfl, rfl, _, rfl, ?_⟩
    by_cases h1 : n < len
    · refine if_true_of (decide_eq_true (by omega)) ?_
      refine ⟨_, rfl, _, rfl, _, rfl, _, _, rfl, rfl, _, _, rfl, rfl, .inl ⟨by omega, by omega⟩, ?_⟩
      have e : (ex : Int) * ((len : Int) - (n : Int)) = ((ex * (len - n) : Nat) : Int) := by
        rw [Int.natCast_mul]
        congr 1
        omega
      rw [if_pos h1] at k
      dsimp only
      rw [e]
      exact k
    · refine if_false_of (decide_eq_false (by omega)) ⟨_, rfl, _, rfl, ?_⟩
      rw [if_neg h1] at k
      cases last with
      | true => exact iteT k
      | false =>
        refine iteF ⟨_, rfl, _, rfl, _, _, rfl, rfl, _, _, rfl, rfl, ⟨by decide, by decide, ?_⟩, ?_⟩
        · have : ((n : Int) - (len : Int)).natAbs = n - len := by omega
          rw [this]
          omega
        · have e : ((n : Int) - (len : Int)) ^ (2 : Int).toNat = (((n - len) ^ 2 : Nat) : Int) := by
            have e1 : (n : Int) - (len : Int) = ((n - len : Nat) : Int) := by omega
            rw [e1]
            exact (Int.natCast_pow (n - len) 2).symm
          dsimp only
          rw [e]
          exact k
theorem scLineCost : FnScope ["width", "length", "joint", "is_last", "result"] ["width", "length", "joint", "is_last"] (defScope sLineCost) := ⟨rfl, rfl, rfl, by decide +kernel, rfl, by decide +kernel, by decide +kernel⟩
theorem ok_lineCost {C : Addr} (F : Fun K "line_cost" "line_cost" sLineCost f fd) (T : TPc K mg C) (hE : IntG mg nmExcess 10000) (hH : IntG mg "HYPHEN_COST" 50) (DF : Def P w K mg base CX0 1 "filling_cost" ["room", "size", "is_last", "excess_cost"] spFill) : FnOk P w K mg base CX0 2 f fd ["width", "length", "joint", "is_last"] spLineCost := by
  refine F.ok scLineCost (fun vs H Q E h => ?_) (fun cdv A outer s H vs Q E hr h => ?_)
  · obtain ⟨n, len, j, last, rfl, _⟩ := h
    rfl
  · refine ⟨_, pss_cons (ps_set (i := 4) scLineCost.nd rfl (Or.inl rfl) (pe_d DF hr (by exact (pa_cons (pv 0) (pa_cons (pv 1) (pa_cons (pv 3) (pa_cons (pe_gi hE) pa_nil)))))))
      (pss_cons (ps_if (pt_cmpR op_eq (pv 2) (pe_gs T.hj) (nomark _)) (pss_one (ps_aug (i := 4) scLineCost.nd rfl (.inl rfl) (pe_gi hH) ip_add)) pss_nil)
      (pss_one (ps_ret (pv 4)))), ?_⟩
    obtain ⟨n, len, j, last, rfl, hn, hlen, k⟩ := h
    refine ⟨_, rfl, _, rfl, _, rfl, n, len, last, 10000, rfl, hn, hlen, by decide, ?_⟩
    rw [Pm.lCost_fill] at k
    generalize Pm.fillC n len last 10000 = r at k ⊢
    refine ⟨_, rfl, rfl, _, rfl, ?_⟩
    by_cases hj : j = .hyphen
    · have e : Pm.hyC j = 50 := by
        unfold Pm.hyC
        rw [if_pos hj]
      rw [e] at k
      refine if_true_of ((js_is j .hyphen).trans (decide_eq_true hj)) ?_
      exact ⟨_, rfl, _, _, rfl, rfl, _, rfl, k⟩
    · have e : Pm.hyC j = 0 := by
        unfold Pm.hyC
        rw [if_neg hj]
      rw [e] at k
      exact if_false_of ((js_is j .hyphen).trans (decide_eq_false hj)) ⟨_, rfl, k⟩
theorem cut_refs_from (qs : List P3) (i : Nat) (h : i ≤ qs.length) : cutV (refs3 qs) (some (i : Int)) none = refs3 (qs.drop i) := by
  unfold cutV
  rw [HT.sIx_nat, HT.sIx_none, refs3_len, Nat.min_eq_left h]
  unfold refs3
  rw [List.map_drop]
  apply List.take_of_length_le
  rw [List.length_drop, List.length_map]
  exact Nat.le_refl _
theorem scAllowed : FnScope ["width", "pieces", "start", "lengths", "length", "piece", "shown"] ["width", "pieces", "start"] (defScope sAllowed) := ⟨rfl, rfl, rfl, by decide +kernel, rfl, by decide +kernel, by decide +kernel⟩
theorem ok_allowed {C : Addr} (F : Fun K "allowed_lengths" "allowed_lengths" sAllowed f fd) (T : TPc K mg C) (ml : mg "len" = none) : FnOk P w K mg base CX0 2 f fd ["width", "pieces", "start"] (spAllowed C) := by
  refine F.ok scAllowed (fun vs H Q E h => ?_) (fun cdv A outer s H vs Q E hr h => ?_)
  · obtain ⟨n, l, st, qs, ps, rfl, _⟩ := h
    rfl
  · refine ⟨_, pss_cons (ps_set (i := 3) scAllowed.nd rfl (Or.inl rfl) (pe_lst pa_nil))
      (pss_cons (ps_set (i := 4) scAllowed.nd rfl (Or.inl rfl) pe_int)
      (pss_cons (ps_for PassesOwn.never rfl (pi_list (pe_slice sl_list (pv 1) (po_some (pv 2)) po_none)) (pg_name (i := 5) scAllowed.nd rfl (Or.inl rfl))
        (pss_cons (ps_aug (i := 4) scAllowed.nd rfl (.inl rfl) (pe_callB call_len_seq (by rfl) ml PySem.boot_len (pa_cons (pe_fld (pv 5) rfl) pa_nil)) ip_add)
        (pss_cons (ps_set (i := 6) scAllowed.nd rfl (Or.inl rfl) (pe_ifExp (pt_cmpR op_eq (pe_fld (pv 5) rfl) (pe_gs T.hj) (nomark _)) (pe_op op_add (pv 4) pe_int) (pv 4)))
        (pss_cons (ps_if (PW.pt (pw_and (pt_truth (pv 3) (by intro _; rfl)) (pw_and1 (pt_cmpR op_gt (pv 6) (pv 0) (nomark _))))) (pss_one ps_break) pss_nil)
        (pss_cons (ps_expr (pe_bm PySem.F.plainAttrs_list PySem.F.slot_list_append PySem.F.type_list_append mt_append (pv 3) (pa_cons (pv 6) pa_nil)))
        (pss_one (ps_if (pt_cmpR op_eq (pe_fld (pv 5) rfl) (pe_gs T.sj) (nomark _)) (pss_one (ps_aug (i := 4) scAllowed.nd rfl (.inl rfl) pe_int ip_add)) pss_nil)))))))
      (pss_one (ps_ret (pv 3))))), ?_⟩
    obtain ⟨n, l, st, qs, ps, rfl, hP, hst, hlet, hct, k⟩ := h
    have big : 1000000 ≤ sizeLine := by decide
    refine ⟨Nat.zero_le _, fun m nm => ?_⟩
    have s1 : Same H (upd H m (.lst [])) := (Same.refl H).new nm
    have hm1 : upd H m (.lst []) m = some (.lst (vn [])) := upd_same
    generalize upd H m (.lst []) = H1 at s1 hm1
    refine ⟨_, rfl, _, rfl, _, rfl, l, _, rfl, s1.seq (SqL.of hP.lst), fun p np => ?_⟩
    have s2 : Same H (upd H1 p (.lst (cutV (refs3 qs) (some (st : Int)) none))) := s1.new np
    have hp2 : upd H1 p (.lst (cutV (refs3 qs) (some (st : Int)) none)) p = some (.lst (refs3 (qs.drop st))) := by
      rw [upd_same, cut_refs_from qs st (by rw [hP.len]; exact hst)]
    have hm2 : upd H1 p (.lst (cutV (refs3 qs) (some (st : Int)) none)) m = some (.lst (vn [])) := by
      rw [upd_ne (ne_of_none hm1 np)]
      exact hm1
    have pm : p ≠ m := (ne_of_none hm1 np).symm
    generalize upd H1 p (.lst (cutV (refs3 qs) (some (st : Int)) none)) = H2 at s2 hp2 hm2
    have hat : ∀ (i : Nat) (q : P3) (v : Kh455.Piece), (qs.drop st)[i]? = some q → (ps.drop st)[i]? = some v → PieceAt C H q v := fun i q v e1 e2 => by
      rw [List.getElem?_drop] at e1 e2
      exact hP.at_ _ q v e1 e2
    have hlen : (qs.drop st).length = (ps.drop st).length := by
      rw [List.length_drop, List.length_drop, hP.len]
    have hlet' : Pm.letters (ps.drop st) ≤ 10000 := by
      have e : Pm.letters ps = Pm.letters (ps.take st) + Pm.letters (ps.drop st) := by rw [← Pm.letters_cat, List.take_append_drop]
      omega
    have hct' : (ps.drop st).length ≤ 10000 := by
      rw [List.length_drop]
      omega
    generalize ps.drop st = pd at *
    generalize qs.drop st = qd at *
    refine ⟨p, rfl, ⟨_, SqL.of hp2⟩, for_list (K := K) (a := p) (xs := refs3 qd)
      (fun i σ H' => ∃ (acc : List Nat) (len : Nat) (x5 x6 : Option V), σ = [some (.int n), some (.ref l), some (.int st), some (.ref m), some (.int len), x5, x6] ∧ Same H H' ∧ H' m = some (.lst (vn acc)) ∧ H' p = some (.lst (refs3 qd)) ∧ acc.length ≤ i ∧ i ≤ pd.length ∧
        len ≤ Pm.letters (pd.take i) + i ∧ Pm.allowed n pd = acc ++ Pm.allowedGo n (pd.drop i) len acc.isEmpty)
      ⟨[], 0, none, none, rfl, s2, hm2, hp2, Nat.le_refl _, Nat.zero_le _, Nat.zero_le _, rfl⟩ (fun i σ H' _ ⟨_, _, _, _, _, _, _, h, _⟩ => SqL.of h) ?_ ?_⟩
    · rintro i x σ H' hi ⟨acc, len, x5, x6, rfl, s3, hm3, hp3, hacc, hip, hln, hdue⟩
      rw [List.getElem?_map] at hi
      cases eq : qd[i]? with
      | none =>
        rw [eq] at hi
        cases hi
      | some q =>
        rw [eq] at hi
        cases hi
        have hif : i < pd.length := by
          rw [← hlen]
          exact (List.getElem?_eq_some_iff.mp eq).1
        have hp := List.getElem?_eq_getElem hif
        have pat := (hat i q _ eq hp).same s3
        have hdrop : pd.drop i = pd[i] :: pd.drop (i + 1) := List.drop_eq_getElem_cons hif
        have hlet2 : Pm.letters (pd.take (i + 1)) = Pm.letters (pd.take i) + pd[i].content.length := by
          rw [take_more hp, Pm.letters_cat]
          simp [Pm.letters]
        have hl3 : Pm.letters (pd.take (i + 1)) ≤ Pm.letters pd := by
          have := Pm.letters_take_drop pd 0 (i + 1)
          rw [List.drop_zero] at this
          exact this
        rw [hdrop] at hdue
        generalize pd[i] = v at *
        -- length += len(piece.characters)
        refine ⟨_, rfl, _, rfl, q.1, C, q.2.1, _, _, rfl, pat.ins, T.cl, T.nC, fPiece_ch _ _, q.2.2, _, rfl, .inl (SqL.of pat.ch), (len : Int), (v.content.length : Int), rfl, congrArg (fun z : Nat => V.int z) (vn_len _), ?_⟩
        -- shown
        refine ⟨_, rfl, q.1, C, q.2.1, _, _, rfl, pat.ins, T.cl, T.nJ, fPiece_jt _ _, rfl, _, rfl, ?_⟩
        have shown : ∀ Q' : VK, Q' (.int (Pm.shownBy len v : Nat)) H' → (if decide (V.str (js v.joint) = V.str "hyphen") = true then tOp (rI0 fun i j => .int (i + j)) (tVar 4) (tC (.int 1)) [some (.int n), some (.ref l), some (.int st), some (.ref m), some (.int (len + v.content.length : Nat)), some (.ref q.1), x6] H' Q'
            else tVar 4 [some (.int n), some (.ref l), some (.int st), some (.ref m), some (.int (len + v.content.length : Nat)), some (.ref q.1), x6] H' Q') := fun Q' hq => by
          by_cases hj : v.joint = .hyphen
          · have e : Pm.shownBy len v = len + v.content.length + 1 := by
              unfold Pm.shownBy
              rw [if_pos hj]
            rw [e] at hq
            exact if_true_of ((js_is v.joint .hyphen).trans (decide_eq_true hj)) ⟨_, rfl, _, _, rfl, rfl, hq⟩
          · have e : Pm.shownBy len v = len + v.content.length := by
              unfold Pm.shownBy
              rw [if_neg hj]
              rfl
            rw [e] at hq
            exact if_false_of ((js_is v.joint .hyphen).trans (decide_eq_false hj)) ⟨_, rfl, hq⟩
        refine shown _ ?_
        have lenE : Pm.lenBy len v = len + v.content.length + (if v.joint = .space then 1 else 0) := rfl
        -- what follows when the line is allowed
        have goes : ∀ (D : Ends), Pm.allowed n pd = acc ++ (Pm.shownBy len v :: Pm.allowedGo n (pd.drop (i + 1)) (Pm.lenBy len v) false) →
            (∀ σ' H3, (∃ (acc : List Nat) (len : Nat) (x5 x6 : Option V), σ' = [some (.int n), some (.ref l), some (.int st), some (.ref m), some (.int len), x5, x6] ∧ Same H H3 ∧ H3 m = some (.lst (vn acc)) ∧ H3 p = some (.lst (refs3 qd)) ∧ acc.length ≤ i + 1 ∧ i + 1 ≤ pd.length ∧
              len ≤ Pm.letters (pd.take (i + 1)) + (i + 1) ∧ Pm.allowed n pd = acc ++ Pm.allowedGo n (pd.drop (i + 1)) len acc.isEmpty) → D.nx σ' H3) →
            tSeq (tDrop (tBM K "list" rAppend (tVar 3) (tCons (tVar 6) tNil))) (tIfS (tTest (tOp rEq (tFld K (tVar 5) "joint") (tC (.str "space")))) (tAug 4 (tC (.int 1)) (ipI fun i j => i + j)) tNext) D
              [some (.int n), some (.ref l), some (.int st), some (.ref m), some (.int (len + v.content.length : Nat)), some (.ref q.1), some (.int (Pm.shownBy len v : Nat))] H' := fun D hnew hk => by
          refine ⟨_, rfl, .inl ⟨rfl, _, SqL.of hm3⟩, _, rfl, m, _, _, rfl, rfl, hm3, (by rw [vn_len]; omega), ?_⟩
          have s4 : Same H (upd H' m (.lst (vn acc ++ [.int (Pm.shownBy len v : Nat)]))) := s3.own nm
          have hm4 : upd H' m (.lst (vn acc ++ [.int (Pm.shownBy len v : Nat)])) m = some (.lst (vn (acc ++ [Pm.shownBy len v]))) := by
            rw [upd_same, vn_snoc]
          have hp4 : upd H' m (.lst (vn acc ++ [.int (Pm.shownBy len v : Nat)])) p = some (.lst (refs3 qd)) := by
            rw [upd_ne pm]
            exact hp3
          generalize upd H' m (.lst (vn acc ++ [.int (Pm.shownBy len v : Nat)])) = H4 at s4 hm4 hp4
          have pat4 := (hat i q v eq hp).same s4
          have ne : (acc ++ [Pm.shownBy len v]).isEmpty = false := by
            cases acc <;> rfl
          have fin : ∀ z : Nat, z = Pm.lenBy len v → D.nx [some (.int n), some (.ref l), some (.int st), some (.ref m), some (.int z), some (.ref q.1), some (.int (Pm.shownBy len v : Nat))] H4 := fun z ez => by
            refine hk _ _ ⟨acc ++ [Pm.shownBy len v], z, _, _, rfl, s4, hm4, hp4, by simp; omega, hif, ?_, ?_⟩
            · rw [ez, lenE, hlet2]
              split <;> omega
            · rw [ne, hnew, ez, List.append_assoc]
              rfl
          refine ⟨_, rfl, q.1, C, q.2.1, _, _, rfl, pat4.ins, T.cl, T.nJ, fPiece_jt _ _, rfl, _, rfl, ?_⟩
          by_cases hj : v.joint = .space
          · refine if_true_of ((js_is v.joint .space).trans (decide_eq_true hj)) ⟨_, rfl, _, _, rfl, rfl, ?_⟩
            exact fin (len + v.content.length + 1) (by rw [lenE, if_pos hj])
          · refine if_false_of ((js_is v.joint .space).trans (decide_eq_false hj)) ?_
            exact fin (len + v.content.length) (by rw [lenE, if_neg hj]; rfl)
        -- if lengths and shown > width
        refine ⟨_, rfl, _, .inl ⟨_, SqL.of hm3, rfl⟩, ?_⟩
        rw [vn_empty]
        cases ea : acc.isEmpty with
        | true =>
          rw [ea] at hdue
          refine iteF (iteF ?_)
          refine goes _ ?_ fun _ _ h => h
          rw [hdue, allowedGo_cons]
          rw [if_neg (fun z => nomatch z.1)]
        | false =>
          rw [ea] at hdue
          refine iteT ⟨_, rfl, _, rfl, _, _, rfl, rfl, _, rfl, ?_⟩
          by_cases hw : n < Pm.shownBy len v
          · refine if_true_of (decide_eq_true (by omega)) ?_
            have e : Pm.allowed n pd = acc := by
              rw [hdue, allowedGo_cons]
              rw [if_pos ⟨rfl, hw⟩, List.append_nil]
            refine ⟨_, rfl, k H' m s3 nm ?_⟩
            rw [e]
            exact hm3
          · refine if_false_of (decide_eq_false (by omega)) ?_
            refine goes _ ?_ fun _ _ h => h
            rw [hdue, allowedGo_cons]
            rw [if_neg (fun z => hw z.2)]
    · rintro σ H' ⟨acc, len, x5, x6, rfl, s3, hm3, hp3, hacc, hip, hln, hdue⟩
      have e0 : pd.drop (refs3 qd).length = [] := List.drop_eq_nil_of_le (by rw [refs3_len, hlen]; exact Nat.le_refl _)
      rw [e0] at hdue
      have e : Pm.allowed n pd = acc := by
        rw [hdue]
        show acc ++ [] = acc
        rw [List.append_nil]
      refine ⟨_, rfl, k H' m s3 nm ?_⟩
      rw [e]
      exact hm3
end
end Pl

namespace L2
open PySem PySem.Spec PyProof.Rows LamX
theorem ntL (xs : List V) : ∀ ps, HO.lst xs ≠ .tbl ps := fun ps z => by cases z
theorem ntI (C dx : Addr) (fs : List (Str × V)) : ∀ ps, HO.ins C dx fs ≠ .tbl ps := fun ps z => by cases z
/-- Fun.ok; told too: which code object is the def's -/
theorem Fun.okC {P : Program} {w : World} {K : PySem.W.Frag} {mg : Str → Option Value} {base : Heap} {x qual : Str} {st : Stmt} {f : Addr} {fd : FuncData} {N ps : List Str} {k : Nat} {sp : Sp} (F : Fun K x qual st f fd) (S : FnScope N ps (defScope st)) (len : ∀ vs H Q E, sp vs H Q E → vs.length = ps.length)
    (hbody : ∀ (cdv : Value), fd.code = cdv → ∀ (A : Around) (outer : List Env) (s : Shared) (H : Hp) (vs : List V) (Q : VK) (E : XK), Room k (A.deeper (envOfC qual (defScope st) s.heap.objs.size f cdv)) → sp vs H Q E →
      ∃ t, PSs (cxOf CX0 P w K mg base N qual (defScope st) f cdv A outer s H E).nox (defBody st) t ∧ t { nx := fun _ H' => Q .non H', rt := Q } (start N vs) H) : FnOk P w K mg base CX0 (k + 1) f fd ps sp := by
  obtain ⟨oc, od, kV, doc, pm, an, cdv, ct, osl, rfl, lk, hcd⟩ := F.ex
  refine fn_of lk hcd S len fun A outer s H vs Q E hr hsp => ?_
  obtain ⟨t, h, q⟩ := hbody cdv rfl A outer s H vs Q E hr hsp
  exact ⟨t, h.nox, q⟩
/-- something stands at b that is no table -/
def Ob (H : Hp) (b : Addr) : Prop := ∃ o, H b = some o ∧ ∀ ps, o ≠ .tbl ps
theorem Ob.lst {H : Hp} {b : Addr} {xs : List V} (h : H b = some (.lst xs)) : Ob H b := ⟨_, h, fun ps z => by cases z⟩
theorem Ob.ext {H H' : Hp} {b : Addr} (x : Ob H b) (e : ExtN H H') : Ob H' b := by
  obtain ⟨o, h, n⟩ := x
  exact ⟨o, e b o h n, n⟩
theorem not_ob {H : Hp} {b : Addr} (h : H b = none) : ¬ Ob H b := fun ⟨o, e, _⟩ => by
  rw [h] at e
  cases e
theorem ExtN.seq {K : PySem.W.Frag} {H H' : Hp} {a : Addr} {xs : List V} (e : ExtN H H') (h : SqL K H a xs) : SqL K H' a xs := by
  rcases h with (h | ⟨o, h⟩) | h
  · exact .inl (.inl (e _ _ h fun ps z => by cases z))
  · exact .inl (.inr ⟨o, e _ _ h fun ps z => by cases z⟩)
  · exact .inr h
theorem ExtN.same {H H' : Hp} (s : Same H H') : ExtN H H' := fun b o h _ => s b o h
end L2
namespace Pl
open PySem PySem.Spec PyProof.Rows L2 LamX NdefX
theorem PcsAt.ext {C l : Addr} {H H' : Hp} {qs : List P3} {ps : List Kh455.Piece} (x : PcsAt C H l qs ps) (e : ExtN H H') : PcsAt C H' l qs ps :=
  ⟨e _ _ x.lst (ntL _), x.len, fun i q p h1 h2 => by
    have y := x.at_ i q p h1 h2
    exact ⟨e _ _ y.ins (ntI _ _ _), e _ _ y.ch (ntL _)⟩⟩
/-- the qualified name of a lambda in the def q -/
def lamQ (q : Str) : Str := (q ++ (".<locals>." : Str)) ++ ("<lambda>" : Str)
/-- the def whose data is fd makes lambdas; their code objects are told by T -/
def LamT (base : Heap) (mg : Str → Option Value) (fd : FuncData) (q : Str) (T : List (Addr × Str)) : Prop := ∃ c P, fd.code = .ref c ∧ TabB base mg c P ∧ (P, lamQ q) ∈ T ∧ ∀ p ∈ T, p.1 = P → p.2 = lamQ q
/-- best_division, of a function that gives the costs -/
def spDivn (call : List V → Hp → VK → Prop) : V → Hp → VK → Prop := fun v H Q => ∃ (n : Nat) (costs : Nat → List Nat) (best : Nat → Kh455.Breaking), v = .int n ∧ n ≤ 100000 ∧ Pm.IsBest n costs best ∧
  (∀ st, st < n → ∀ H', Same H H' → ∀ Q' : VK, (∀ H'' p, Same H' H'' → H' p = none → H'' p = some (.lst (vn (costs st))) → Q' (.ref p) H'') → call [.int st] H' Q') ∧
  ∀ (H' : Hp) (p : Addr), Same H H' → H p = none → H' p = some (.lst (vn (best 0).2)) → Q (.ref p) H'
def spAllCosts (C : Addr) : Sp := fun vs H Q _ => ∃ (n : Nat) (l : Addr) (st : Nat) (qs : List P3) (ps : List Kh455.Piece), vs = [.int n, .ref l, .int st] ∧ PcsAt C H l qs ps ∧ st < ps.length ∧ n ≤ 100000 ∧ Pm.letters ps ≤ 10000 ∧ ps.length ≤ 10000 ∧ (∀ p ∈ ps, p.content ≠ []) ∧
  ∀ (H' : Hp) (p : Addr), Same H H' → H p = none → H' p = some (.lst (vn (Pm.costList n (ps.drop st)))) → Q (.ref p) H'
def spBest (C : Addr) (T : List (Addr × Str)) : Sp := fun vs H Q _ => ∃ (n : Nat) (l : Addr) (qs : List P3) (ps : List Kh455.Piece), vs = [.int n, .ref l] ∧ Tabs T H ∧ PcsAt C H l qs ps ∧ n ≤ 100000 ∧ Pm.letters ps ≤ 10000 ∧ ps.length ≤ 10000 ∧ (∀ p ∈ ps, p.content ≠ []) ∧
  ∀ (H' : Hp) (p : Addr), ExtN H H' → Tabs T H' → ¬ Ob H p → H' p = some (.lst (vn (Kh455.bestBreaking n ps).2)) → Q (.ref p) H'
section
variable {P : Program} {w : World} {K : PySem.W.Frag} {mg : Str → Option Value} {base : Heap} {f : Addr} {fd : FuncData}
theorem scDivn : FnScope ["size", "costs_from", "costs", "firsts", "start", "count", "own", "total", "counts", "at"] ["size", "costs_from"] (defScope sDivn) := ⟨rfl, rfl, rfl, by decide +kernel, rfl, by decide +kernel, by decide +kernel⟩
/-- how far the second loop is -/
def atOf (σ : L2.St) : Nat := match σ[9]? with
  | some (some (V.int i)) => i.toNat
  | _ => 0
theorem ok_divn {kc : Nat} (F : Fun K "best_division" "best_division" sDivn f fd) (hb : Binds K fd ["size", "costs_from"] []) (mr : mg "range" = none) (me : mg "enumerate" = none) : GetsFn P w K mg base (kc + 1) kc f spDivn := by
  refine F.getsFn scDivn rfl hb fun cdv A outer s H v g call Q hr C h => ?_
  refine ⟨_, pss_cons (ps_set (i := 2) scDivn.nd rfl (Or.inl rfl) (pe_op op_rep (pe_lst (pa_cons pe_int pa_nil)) (pe_op op_add (pv 0) pe_int)))
      (pss_cons (ps_set (i := 3) scDivn.nd rfl (Or.inl rfl) (pe_op op_rep (pe_lst (pa_cons pe_int pa_nil)) (pv 0)))
      (pss_cons (ps_for PassesOwn.never rfl (pi_range3 rfl mr (pa_cons (pe_op op_sub (pv 0) pe_int) (pa_cons (pe_un un_neg pe_int) (pa_cons (pe_un un_neg pe_int) pa_nil)))) (pg_name (i := 4) scDivn.nd rfl (Or.inl rfl))
        (pss_one (ps_for PassesOwn.never rfl (pi_enumK (by rfl) me (pa_cons (pe_clo (i := 1) C rfl hr rfl (Or.inl rfl) (by exact (pa_cons (pv 4) pa_nil))) pa_nil) (pk_cons pe_int pk_nil))
            (pg_tup (by rfl) (pgs_cons (pg_name (i := 5) scDivn.nd rfl (Or.inl rfl)) (pgs_cons (pg_name (i := 6) scDivn.nd rfl (Or.inl rfl)) pgs_nil)))
          (pss_cons (ps_set (i := 7) scDivn.nd rfl (Or.inl rfl) (pe_op op_add (pv 6) (pe_ix ix_list (pv 2) (pe_op op_add (pv 4) (pv 5)) (fun _ _ => rfl))))
          (pss_one (ps_if (PW.pt (pw_or (pt_cmpR op_eq (pv 5) pe_int (nomark _)) (pw_or1 (pt_cmpR op_le (pv 7) (pe_ix ix_list (pv 2) (pv 4) (fun _ _ => rfl)) (nomark _)))))
            (pss_cons (ps_asg (pv 7) (pg_sub (pv 2) (pv 4) set_list)) (pss_one (ps_asg (pv 5) (pg_sub (pv 3) (pv 4) set_list)))) pss_nil))))))
      (pss_cons (ps_set (i := 8) scDivn.nd rfl (Or.inl rfl) (pe_lst pa_nil))
      (pss_cons (ps_set (i := 9) scDivn.nd rfl (Or.inl rfl) pe_int)
      (pss_cons (ps_while PassesOwn.never (pt_cmpR op_lt (pv 9) (pv 0) (nomark _))
        (pss_cons (ps_expr (pe_bm PySem.F.plainAttrs_list PySem.F.slot_list_append PySem.F.type_list_append mt_append (pv 8) (pa_cons (pe_ix ix_list (pv 3) (pv 9) (fun _ _ => rfl)) pa_nil)))
          (pss_one (ps_aug (i := 9) scDivn.nd rfl (.inl rfl) (pe_ix ix_list (pv 3) (pv 9) (fun _ _ => rfl)) ip_add))))
      (pss_one (ps_ret (pv 8)))))))), ?_⟩
  obtain ⟨n, costs, best, rfl, hn, B, hcall, k⟩ := h
  have big : 1000000 ≤ sizeLine := by decide
  -- costs
  refine ⟨(by show 1 ≤ sizeLine; decide), fun p0 np0 => ?_⟩
  have s0 : Same H (upd H p0 (.lst [.int 0])) := (Same.refl H).new np0
  have hp0 : upd H p0 (.lst [.int 0]) p0 = some (.lst [.int 0]) := upd_same
  generalize upd H p0 (.lst [.int 0]) = H0 at s0 hp0
  refine ⟨_, rfl, _, _, rfl, rfl, p0, _, _, rfl, rfl, hp0, by omega, by omega, (by show 1 * ((n : Int) + 1).toNat ≤ sizeLine; omega), fun pc npc => ?_⟩
  have en : ((n : Int) + 1).toNat = n + 1 := by omega
  rw [en, vn_zeros]
  have npcH : H pc = none := s0.free npc
  have s1 : Same H (upd H0 pc (.lst (vn (List.replicate (n + 1) 0)))) := s0.new npc
  have hc1 : upd H0 pc (.lst (vn (List.replicate (n + 1) 0))) pc = some (.lst (vn (List.replicate (n + 1) 0))) := upd_same
  generalize upd H0 pc (.lst (vn (List.replicate (n + 1) 0))) = H1 at s1 hc1
  -- firsts
  refine ⟨(by show 1 ≤ sizeLine; decide), fun p1 np1 => ?_⟩
  have s2 : Same H (upd H1 p1 (.lst [.int 0])) := s1.new np1
  have hp1 : upd H1 p1 (.lst [.int 0]) p1 = some (.lst [.int 0]) := upd_same
  have hc2 : upd H1 p1 (.lst [.int 0]) pc = some (.lst (vn (List.replicate (n + 1) 0))) := by
    rw [upd_ne (ne_of_none hc1 np1)]
    exact hc1
  generalize upd H1 p1 (.lst [.int 0]) = H2 at s2 hp1 hc2
  refine ⟨_, rfl, p1, _, _, rfl, rfl, hp1, by omega, by omega, (by show 1 * ((n : Int)).toNat ≤ sizeLine; omega), fun pf npf => ?_⟩
  have en2 : ((n : Int)).toNat = n := by omega
  rw [en2, vn_zeros]
  have npfH : H pf = none := s2.free npf
  have pfc : pf ≠ pc := (ne_of_none hc2 npf).symm
  have s3 : Same H (upd H2 pf (.lst (vn (List.replicate n 0)))) := s2.new npf
  have hf3 : upd H2 pf (.lst (vn (List.replicate n 0))) pf = some (.lst (vn (List.replicate n 0))) := upd_same
  have hc3 : upd H2 pf (.lst (vn (List.replicate n 0))) pc = some (.lst (vn (List.replicate (n + 1) 0))) := by
    rw [upd_ne pfc.symm]
    exact hc2
  generalize upd H2 pf (.lst (vn (List.replicate n 0))) = H3 at s3 hf3 hc3
  -- for start in range(size - 1, -1, -1)
  refine ⟨_, rfl, _, _, rfl, rfl, _, rfl, _, rfl, _, _, _, n, rfl, ?_, ?_⟩
  · have g := RgC.neg (i := (n : Int) - 1) (j := -1) (by omega) (by omega) (by omega) (by omega)
    have e : ((n : Int) - 1 - -1).toNat = n := by omega
    rw [e] at g
    exact g
  refine for_rangeC (n := n)
    (fun i σ H' => ∃ (cs fs : List Nat) (x4 x5 x6 x7 : Option V), σ = [some (.int n), some (.ref g), some (.ref pc), some (.ref pf), x4, x5, x6, x7, none, none] ∧ Same H H' ∧ H' pc = some (.lst (vn cs)) ∧ H' pf = some (.lst (vn fs)) ∧ Pm.Kn n best (n - i) cs fs)
    ⟨_, _, none, none, none, none, rfl, s3, hc3, hf3, Pm.Kn.start B⟩ ?_ ?_
  · rintro i σ H4 hi ⟨cs, fs, x4, x5, x6, x7, rfl, s4, hc4, hf4, kn⟩
    have ei : (n : Int) - 1 + (i : Nat) * -1 = ((n - 1 - i : Nat) : Int) := by omega
    rw [ei]
    have en1 : n - i = (n - 1 - i) + 1 := by omega
    have en3 : n - (i + 1) = n - 1 - i := by omega
    rw [en1] at kn
    rw [en3]
    have hst : n - 1 - i < n := by omega
    generalize n - 1 - i = st at *
    clear ei en1 en3
    refine ⟨rfl, _, rfl, ExtN.same s4, hcall st hst H4 s4 _ fun H5 la s5 nla hla => ?_⟩
    have lac : la ≠ pc := (ne_of_none hc4 nla).symm
    have laf : la ≠ pf := (ne_of_none hf4 nla).symm
    have alen := B.le st hst
    refine ⟨la, _, 1, rfl, rfl, by decide, by decide, SqL.of hla, for_it walk_enumK
      (fun k σ H' => ∃ (cs fs : List Nat) (x5 x6 x7 : Option V), σ = [some (.int n), some (.ref g), some (.ref pc), some (.ref pf), some (.int st), x5, x6, x7, none, none] ∧ Same H H' ∧ H' pc = some (.lst (vn cs)) ∧ H' pf = some (.lst (vn fs)) ∧ H' la = some (.lst (vn (costs st))) ∧
        Pm.Kn n best (st + 1) cs fs ∧ Pm.Sf costs best st k cs fs)
      ⟨cs, fs, x5, x6, x7, rfl, s4.trans s5, s5 _ _ hc4, s5 _ _ hf4, hla, kn, .inl rfl⟩ (fun k σ H' _ ⟨_, _, _, _, _, _, _, _, _, h, _⟩ => SqL.of h) ?_ ?_⟩
    · rintro k x σ H6 H7 hk ⟨cs, fs, x5, x6, x7, rfl, s6, hc6, hf6, hla6, kn, sf⟩ ⟨U, u, v, rfl, nU, rfl, eu, ev⟩
      rw [vn_len] at hk
      have hak := List.getElem?_eq_getElem hk
      have ev : (vn (costs st))[k]? = some v := ev
      rw [vn_get hak] at ev
      have eu : some (V.int (1 + (k : Nat))) = some u := eu
      cases ev
      cases eu
      have eown : (costs st)[k] = (costs st).getD k 0 := by
        rw [List.getD_eq_getElem?_getD, hak]
        rfl
      generalize (costs st)[k] = own at *
      have s7 : Same H (upd H6 U (.tup [.int (1 + (k : Nat)), .int own])) := s6.new nU
      have hc7 : upd H6 U (.tup [.int (1 + (k : Nat)), .int own]) pc = some (.lst (vn cs)) := by
        rw [upd_ne (ne_of_none hc6 nU)]
        exact hc6
      have hf7 : upd H6 U (.tup [.int (1 + (k : Nat)), .int own]) pf = some (.lst (vn fs)) := by
        rw [upd_ne (ne_of_none hf6 nU)]
        exact hf6
      have hla7 : upd H6 U (.tup [.int (1 + (k : Nat)), .int own]) la = some (.lst (vn (costs st))) := by
        rw [upd_ne (ne_of_none hla6 nU)]
        exact hla6
      have hU7 : upd H6 U (.tup [.int (1 + (k : Nat)), .int own]) U = some (.tup [.int (1 + (k : Nat)), .int own]) := upd_same
      generalize upd H6 U (.tup [.int (1 + (k : Nat)), .int own]) = H7 at s7 hc7 hf7 hla7 hU7
      have hcost := kn.co (st + k + 1) (by omega) (by omega)
      -- count, own
      refine ⟨U, _, rfl, .inl (Rd.of hU7), rfl, _, _, rfl, _, _, rfl, rfl, ?_⟩
      -- total
      have e1 : (st : Int) + (1 + (k : Int)) = ((st + k + 1 : Nat) : Int) := by omega
      refine ⟨_, rfl, _, rfl, _, rfl, _, rfl, _, _, rfl, rfl, pc, _, _, _, rfl, rfl, SqL.of hc7, (by rw [e1]; exact atI_nat (vn_get hcost)), _, _, rfl, rfl, ?_⟩
      have etot : ((own : Nat) : Int) + ((best (st + k + 1)).1 : Nat) = ((Pm.cand_ costs best st k).1 : Nat) := by
        unfold Pm.cand_
        rw [← eown]
        rfl
      dsimp only
      rw [etot]
      have inC : st < cs.length := by
        rw [kn.cl]
        omega
      have inF : st < fs.length := by
        rw [kn.fl]
        omega
      have put : ∀ D : Ends, (k = 0 ∨ ∃ b, Pm.pyB costs best st k = some b ∧ (Pm.cand_ costs best st k).1 ≤ b.1) →
          (∀ σ' H3, (∃ (cs fs : List Nat) (x5 x6 x7 : Option V), σ' = [some (.int n), some (.ref g), some (.ref pc), some (.ref pf), some (.int st), x5, x6, x7, none, none] ∧ Same H H3 ∧ H3 pc = some (.lst (vn cs)) ∧ H3 pf = some (.lst (vn fs)) ∧ H3 la = some (.lst (vn (costs st))) ∧
            Pm.Kn n best (st + 1) cs fs ∧ Pm.Sf costs best st (k + 1) cs fs) → D.nx σ' H3) →
          tSeq (tAsg (tVar 7) (gSub (tVar 2) (tVar 4) rSetL)) (tAsg (tVar 5) (gSub (tVar 3) (tVar 4) rSetL)) D
            [some (.int n), some (.ref g), some (.ref pc), some (.ref pf), some (.int st), some (.int (1 + (k : Nat))), some (.int own), some (.int ((Pm.cand_ costs best st k).1 : Nat)), none, none] H7 := fun D hb hk => by
        refine ⟨_, rfl, _, rfl, _, rfl, pc, _, _, st, rfl, rfl, hc7, ixN_at (by rw [vn_len]; exact inC), ?_⟩
        have s8 : Same H (upd H7 pc (.lst ((vn cs).set st (.int ((Pm.cand_ costs best st k).1 : Nat))))) := s7.own npcH
        have hc8 : upd H7 pc (.lst ((vn cs).set st (.int ((Pm.cand_ costs best st k).1 : Nat)))) pc = some (.lst (vn (cs.set st (Pm.cand_ costs best st k).1))) := by
          rw [upd_same, vn_set]
        have hf8 : upd H7 pc (.lst ((vn cs).set st (.int ((Pm.cand_ costs best st k).1 : Nat)))) pf = some (.lst (vn fs)) := by
          rw [upd_ne pfc]
          exact hf7
        have hla8 : upd H7 pc (.lst ((vn cs).set st (.int ((Pm.cand_ costs best st k).1 : Nat)))) la = some (.lst (vn (costs st))) := by
          rw [upd_ne lac]
          exact hla7
        generalize upd H7 pc (.lst ((vn cs).set st (.int ((Pm.cand_ costs best st k).1 : Nat)))) = H8 at s8 hc8 hf8 hla8
        refine ⟨_, rfl, _, rfl, _, rfl, pf, _, _, st, rfl, rfl, hf8, ixN_at (by rw [vn_len]; exact inF), ?_⟩
        have ek : (1 : Int) + (k : Nat) = ((k + 1 : Nat) : Int) := by omega
        have s9 : Same H (upd H8 pf (.lst ((vn fs).set st (.int (1 + (k : Nat)))))) := s8.own npfH
        have hf9 : upd H8 pf (.lst ((vn fs).set st (.int (1 + (k : Nat))))) pf = some (.lst (vn (fs.set st (k + 1)))) := by
          rw [upd_same, ek, vn_set]
        have hc9 : upd H8 pf (.lst ((vn fs).set st (.int (1 + (k : Nat))))) pc = some (.lst (vn (cs.set st (Pm.cand_ costs best st k).1))) := by
          rw [upd_ne pfc.symm]
          exact hc8
        have hla9 : upd H8 pf (.lst ((vn fs).set st (.int (1 + (k : Nat))))) la = some (.lst (vn (costs st))) := by
          rw [upd_ne laf]
          exact hla8
        exact hk _ _ ⟨_, _, _, _, _, rfl, s9, hc9, hf9, hla9, kn.set _ _, Pm.Sf.take inC inF hb⟩
      refine ⟨_, rfl, rfl, _, rfl, ?_⟩
      by_cases h0 : k = 0
      · refine if_true_of (decide_eq_true (by rw [h0]; rfl)) (iteT ?_)
        exact put _ (.inl h0) fun _ _ h => h
      · refine if_false_of (decide_eq_false fun z => h0 ?_) ?_
        · have z : (1 : Int) + (k : Nat) = 1 := V.int.inj z
          omega
        · rcases sf with sf | ⟨b, eb, hcb, hfb⟩
          · exact absurd sf h0
          · refine ⟨_, rfl, _, rfl, _, rfl, pc, _, _, _, rfl, rfl, SqL.of hc7, atI_nat (vn_get hcb), _, _, rfl, rfl, _, rfl, ?_⟩
            by_cases hle : (Pm.cand_ costs best st k).1 ≤ b.1
            · refine if_true_of (decide_eq_true (by omega)) ?_
              exact put _ (.inr ⟨b, eb, hle⟩) fun _ _ h => h
            · refine if_false_of (decide_eq_false (by omega)) ?_
              exact ⟨cs, fs, _, _, _, rfl, s7, hc7, hf7, hla7, kn, Pm.Sf.leave eb hle hcb hfb⟩
    · rintro σ H6 ⟨cs, fs, x5, x6, x7, rfl, s6, hc6, hf6, hla6, kn, sf⟩
      rw [vn_len] at sf
      exact ⟨cs, fs, _, x5, x6, x7, rfl, s6, hc6, hf6, kn.done B hst sf⟩
  · rintro σ H4 ⟨cs, fs, x4, x5, x6, x7, rfl, s4, hc4, hf4, kn⟩
    rw [Nat.sub_self] at kn
    refine ⟨Nat.zero_le _, fun m nm => ?_⟩
    have nmH : H m = none := s4.free nm
    have mf : m ≠ pf := fun z => by
      rw [z, hf4] at nm
      cases nm
    have s5 : Same H (upd H4 m (.lst [])) := s4.new nm
    have hm5 : upd H4 m (.lst []) m = some (.lst (vn [])) := upd_same
    have hf5 : upd H4 m (.lst []) pf = some (.lst (vn fs)) := by
      rw [upd_ne mf.symm]
      exact hf4
    generalize upd H4 m (.lst []) = H5 at s5 hm5 hf5
    refine while_by (fun σ H' => ∃ (a : Nat) (done : List Nat), σ = [some (.int n), some (.ref g), some (.ref pc), some (.ref pf), x4, x5, x6, x7, some (.ref m), some (.int a)] ∧ Same H H' ∧ H' pf = some (.lst (vn fs)) ∧ H' m = some (.lst (vn done)) ∧ a ≤ n ∧ done.length ≤ a ∧
        (best 0).2 = done ++ (best a).2)
      (fun σ H' => n - atOf σ) ⟨0, [], rfl, s5, hf5, hm5, Nat.zero_le _, Nat.le_refl _, rfl⟩ ?_ ?_
    · rintro σ H6 ⟨a, done, rfl, s6, hf6, hm6, ha, hdl, hdue⟩
      refine ⟨_, rfl, _, rfl, _, _, rfl, rfl, _, rfl, ?_⟩
      by_cases hlt : a < n
      · refine if_true_of (decide_eq_true (by omega)) ?_
        obtain ⟨b1, b2, b3⟩ := B.next hlt
        have hfa := kn.fi a (Nat.zero_le _) hlt
        generalize (best a).2.headD 0 = c at *
        refine ⟨_, rfl, .inl ⟨rfl, _, SqL.of hm6⟩, _, rfl, _, rfl, pf, _, _, _, rfl, rfl, SqL.of hf6, atI_nat (vn_get hfa), ?_⟩
        refine ⟨m, _, _, rfl, rfl, hm6, (by rw [vn_len]; omega), ?_⟩
        have s7 : Same H (upd H6 m (.lst (vn done ++ [.int c]))) := s6.own nmH
        have hm7 : upd H6 m (.lst (vn done ++ [.int c])) m = some (.lst (vn (done ++ [c]))) := by
          rw [upd_same, vn_snoc]
        have hf7 : upd H6 m (.lst (vn done ++ [.int c])) pf = some (.lst (vn fs)) := by
          rw [upd_ne mf.symm]
          exact hf6
        generalize upd H6 m (.lst (vn done ++ [.int c])) = H7 at s7 hm7 hf7
        refine ⟨_, rfl, _, rfl, _, rfl, pf, _, _, _, rfl, rfl, SqL.of hf7, atI_nat (vn_get hfa), _, _, rfl, rfl, ?_⟩
        refine ⟨⟨a + c, done ++ [c], rfl, s7, hf7, hm7, b2, (by simp; omega), ?_⟩, ?_⟩
        · rw [hdue, b3, List.append_assoc]
          rfl
        · show n - ((a : Int) + (c : Int)).toNat < n - (a : Int).toNat
          omega
      · refine if_false_of (decide_eq_false (by omega)) ?_
        have e : a = n := by omega
        rw [e, B.nil, List.append_nil] at hdue
        refine ⟨_, rfl, k H6 m s6 nmH ?_⟩
        rw [hdue]
        exact hm6
    · rintro σ H' Q1 Q2 hq ⟨v, e, v2, e2, i, j, ei, ej, k, ek, q⟩
      exact ⟨v, e, v2, e2, i, j, ei, ej, k, ek, hq _ _ q⟩
theorem scAllCosts : FnScope ["width", "pieces", "start", "costs", "end", "length"] ["width", "pieces", "start"] (defScope sAllCosts) := ⟨rfl, rfl, rfl, by decide +kernel, rfl, by decide +kernel, by decide +kernel⟩
theorem ok_allCosts {C : Addr} (F : Fun K "allowed_costs" "allowed_costs" sAllCosts f fd) (T : TPc K mg C) (ml : mg "len" = none) (me : mg "enumerate" = none)
    (DA : Def P w K mg base CX0 2 "allowed_lengths" ["width", "pieces", "start"] (spAllowed C)) (DC : Def P w K mg base CX0 2 "line_cost" ["width", "length", "joint", "is_last"] spLineCost) : FnOk P w K mg base CX0 4 f fd ["width", "pieces", "start"] (spAllCosts C) := by
  refine F.ok scAllCosts (fun vs H Q E h => ?_) (fun cdv A outer s H vs Q E hr h => ?_)
  · obtain ⟨n, l, st, qs, ps, rfl, _⟩ := h
    rfl
  · have hr2 : Room 2 _ := hr.mono (by decide)
    refine ⟨_, pss_cons (ps_set (i := 3) scAllCosts.nd rfl (Or.inl rfl) (pe_lst pa_nil))
      (pss_cons (ps_for PassesOwn.never rfl (pi_enumK (by rfl) me (pa_cons (pe_d DA hr2 (by exact (pa_cons (pv 0) (pa_cons (pv 1) (pa_cons (pv 2) pa_nil))))) pa_nil) (pk_cons (pe_op op_add (pv 2) pe_int) pk_nil))
            (pg_tup (by rfl) (pgs_cons (pg_name (i := 4) scAllCosts.nd rfl (Or.inl rfl)) (pgs_cons (pg_name (i := 5) scAllCosts.nd rfl (Or.inl rfl)) pgs_nil)))
          (pss_one (ps_expr (pe_bm PySem.F.plainAttrs_list PySem.F.slot_list_append PySem.F.type_list_append mt_append (pv 3)
            (pa_cons (pe_d DC hr2 (by exact (pa_cons (pv 0) (pa_cons (pv 5) (pa_cons (pe_fld (pe_ix ix_list (pv 1) (pe_op op_sub (pv 4) pe_int) (fun _ _ => rfl)) rfl) (pa_cons (pe_cmpR op_eq (pv 4) (pe_callB call_len_seq (by rfl) ml PySem.boot_len (pa_cons (pv 1) pa_nil)) (nomark _)) pa_nil)))))) pa_nil)))))
      (pss_one (ps_ret (pv 3)))), ?_⟩
    obtain ⟨n, l, st, qs, ps, rfl, hP, hst, hn, hlet, hct, full, k⟩ := h
    have big : 1000000 ≤ sizeLine := by decide
    have hql := hP.len
    have hl3 : (refs3 qs).length = ps.length := by rw [refs3_len, hql]
    refine ⟨Nat.zero_le _, fun m nm => ?_⟩
    have s1 : Same H (upd H m (.lst [])) := (Same.refl H).new nm
    have hm1 : upd H m (.lst []) m = some (.lst (vn [])) := upd_same
    generalize upd H m (.lst []) = H1 at s1 hm1
    refine ⟨_, rfl, _, rfl, _, rfl, n, l, st, qs, ps, rfl, hP.same s1, Nat.le_of_lt hst, hlet, hct, fun H5 la s5 nla hla => ?_⟩
    have lam : la ≠ m := (ne_of_none hm1 nla).symm
    have hall : ∀ k x, (Pm.allowed n (ps.drop st))[k]? = some x → st + k < ps.length ∧ x = Pm.lens (ps.drop st) k ∧ x ≤ Pm.letters ps + ps.length := fun k x => Pm.lens_at n full st
    have alen := Pm.allowed_len n (ps.drop st) 0 true
    have alen : (Pm.allowed n (ps.drop st)).length ≤ (ps.drop st).length := alen
    rw [List.length_drop] at alen
    refine ⟨_, rfl, _, _, rfl, rfl, la, _, _, rfl, rfl, by omega, by omega, SqL.of hla, for_it walk_enumK
      (fun k σ H' => ∃ (x4 x5 : Option V), σ = [some (.int n), some (.ref l), some (.int st), some (.ref m), x4, x5] ∧ Same H H' ∧ H' la = some (.lst (vn (Pm.allowed n (ps.drop st)))) ∧ H' m = some (.lst (vn ((Pm.costList n (ps.drop st)).take k))))
      ⟨none, none, rfl, s1.trans s5, hla, s5 _ _ hm1⟩ (fun k σ H' _ ⟨_, _, _, _, h, _⟩ => SqL.of h) ?_ ?_⟩
    · rintro k x σ H6 H7 hk ⟨x4, x5, rfl, s6, hla6, hm6⟩ ⟨U, u, v, rfl, nU, rfl, eu, ev⟩
      rw [vn_len] at hk
      have hak := List.getElem?_eq_getElem hk
      have hcl := Pm.costList_get hk
      have ev : (vn (Pm.allowed n (ps.drop st)))[k]? = some v := ev
      rw [vn_get hak] at ev
      have eu : some (V.int ((st : Int) + 1 + (k : Nat))) = some u := eu
      cases ev
      cases eu
      obtain ⟨hin, elen, hsm⟩ := hall k _ hak
      generalize (Pm.allowed n (ps.drop st))[k] = len at *
      have e1 : (st : Int) + 1 + (k : Int) = ((st + k + 1 : Nat) : Int) := by omega
      have e2 : ((st + k + 1 : Nat) : Int) - 1 = ((st + k : Nat) : Int) := by omega
      rw [e1]
      have s7 : Same H (upd H6 U (.tup [.int ((st + k + 1 : Nat) : Int), .int len])) := s6.new nU
      have hm7 : upd H6 U (.tup [.int ((st + k + 1 : Nat) : Int), .int len]) m = some (.lst (vn ((Pm.costList n (ps.drop st)).take k))) := by
        rw [upd_ne (ne_of_none hm6 nU)]
        exact hm6
      have hla7 : upd H6 U (.tup [.int ((st + k + 1 : Nat) : Int), .int len]) la = some (.lst (vn (Pm.allowed n (ps.drop st)))) := by
        rw [upd_ne (ne_of_none hla6 nU)]
        exact hla6
      have hU7 : upd H6 U (.tup [.int ((st + k + 1 : Nat) : Int), .int len]) U = some (.tup [.int ((st + k + 1 : Nat) : Int), .int len]) := upd_same
      generalize upd H6 U (.tup [.int ((st + k + 1 : Nat) : Int), .int len]) = H7 at s7 hm7 hla7 hU7
      have hpk := List.getElem?_eq_getElem hin
      have hqk : ∃ q, qs[st + k]? = some q := ⟨qs[st + k]'(by omega), List.getElem?_eq_getElem (by omega)⟩
      obtain ⟨q, hqk⟩ := hqk
      have pat := (hP.at_ _ q _ hqk hpk).same s7
      have jt : Pm.jointAt (ps.drop st) k = (ps[st + k]).joint := by
        unfold Pm.jointAt
        rw [List.getElem?_drop, hpk]
        rfl
      generalize ps[st + k] = pv at *
      refine ⟨U, _, rfl, .inl (Rd.of hU7), rfl, _, _, rfl, _, _, rfl, rfl, ?_⟩
      have hrefs : (refs3 qs)[st + k]? = some (V.ref q.1) := by
        rw [List.getElem?_map, hqk]
        rfl
      refine ⟨_, rfl, .inl ⟨rfl, _, SqL.of hm7⟩, _, rfl, _, rfl, _, rfl, _, rfl, _, _, rfl, rfl, l, _, _, .ref q.1, rfl, rfl, s7.seq (SqL.of hP.lst), (by rw [e2]; exact atI_nat hrefs), ?_⟩
      refine ⟨q.1, C, q.2.1, _, _, rfl, pat.ins, T.cl, T.nJ, fPiece_jt _ _, _, rfl, _, rfl, l, _, rfl, .inl (s7.seq (SqL.of hP.lst)), rfl, ?_⟩
      rw [hl3]
      have elast : decide (V.int ((st + k + 1 : Nat) : Int) = V.int (ps.length : Nat)) = decide (k + 1 = (ps.drop st).length) := by
        rw [List.length_drop, decide_eq_decide]
        constructor
        · intro z
          have z : ((st + k + 1 : Nat) : Int) = (ps.length : Nat) := V.int.inj z
          omega
        · intro z
          have z : st + k + 1 = ps.length := by omega
          rw [z]
      rw [elast]
      refine ⟨n, len, pv.joint, _, rfl, hn, (by omega), ?_⟩
      refine ⟨m, _, _, rfl, rfl, hm7, (by rw [vn_len, List.length_take]; omega), ?_⟩
      have mnH : H m = none := nm
      refine ⟨_, _, rfl, s7.own mnH, ?_, ?_⟩
      · rw [upd_ne lam]
        exact hla7
      · have et : (Pm.costList n (ps.drop st)).take (k + 1) = (Pm.costList n (ps.drop st)).take k ++ [Pm.lCost n len pv.joint (decide (k + 1 = (ps.drop st).length))] := by
          rw [List.take_add_one, hcl, jt, elen]
          rfl
        rw [upd_same, vn_snoc, et]
    · rintro σ H6 ⟨x4, x5, rfl, s6, hla6, hm6⟩
      rw [vn_len, List.take_of_length_le (by rw [Pm.costList_len]; exact Nat.le_refl _)] at hm6
      exact ⟨_, rfl, k H6 m s6 nm hm6⟩
theorem scBest : FnScope ["width", "pieces"] ["width", "pieces"] (defScope sBest) := ⟨rfl, rfl, rfl, by decide +kernel, rfl, by decide +kernel, by decide +kernel⟩
/-- the lambda's scope, as it stands in the text -/
def lamScope : Stmt → Scope
  | .FunctionDef _ _ [.Return (some (.Call _ [_, .Lambda _ _ sc _] _ _)) _] _ _ _ _ _ _ _ => sc
  | _ => { kind := .function, names := [], isGenerator := false, isCoroutine := false }
theorem ndef_best : ndefB (defScope sBest) (lamScope sBest) ["width", "pieces"] = true := by decide +kernel
theorem ok_best {C : Addr} {T : List (Addr × Str)} {fg : Addr} (F : Fun K "best_counts" "best_counts" sBest f fd) (ml : mg "len" = none) (L : LamT base mg fd "best_counts" T) (mD : mg "best_division" = some (.ref fg)) (kD : PySem.W.keepIn K (.ref fg) = true)
    (G : GetsFn P w K mg base 6 5 fg spDivn) (DA : Def P w K mg base CX0 4 nmAllCosts ["width", "pieces", "start"] (spAllCosts C)) : FnOk P w K mg base CX0 7 f fd ["width", "pieces"] (spBest C T) := by
  obtain ⟨c, Pt, hc, TB, hmT, hu⟩ := L
  refine F.okC scBest (fun vs H Q E h => ?_) (fun cdv hcd A outer s H vs Q E hr h => ?_)
  · obtain ⟨n, l, qs, ps, rfl, _⟩ := h
    rfl
  · refine ⟨_, pss_one (ps_ret (pe_lamarg (T := T) (N := ["start", "width", "pieces"]) (ps := ["start"]) (fr := ["width", "pieces"]) (js := [0, 1]) (kc := 4) (P := Pt) (c := c) rfl mD kD G hr TB (hcd.symm.trans hc) hmT hu
      (pe_callB call_len_seq (by rfl) ml PySem.boot_len (pa_cons (pv 1) pa_nil)) (nscope_by (by decide +kernel)) (by exact (ndef_best)) rfl rfl (fun _ _ _ _ _ us hl => match us, hl with | [_], _ => rfl)
      (fun A outer s H f c' hr => pe_d DA hr (by exact (pa_cons (pv 1) (pa_cons (pv 2) (pa_cons (pv 0) pa_nil))))))), ?_⟩
    obtain ⟨n, l, qs, ps, rfl, hT, hP, hn, hlet, hct, full, k⟩ := h
    have hl3 : (refs3 qs).length = ps.length := by rw [refs3_len, hP.len]
    refine ⟨_, rfl, l, _, rfl, .inl (SqL.of hP.lst), hT, fun H2 e2 T2 => ?_⟩
    rw [hl3]
    refine ⟨ps.length, _, _, rfl, by omega, Pm.lines_best n full, fun st hst H' s' Q' k' => ?_, fun H' p s' np hp => ?_⟩
    · refine ⟨rfl, _, rfl, _, rfl, _, rfl, n, l, st, qs, ps, rfl, (hP.ext e2).same s', hst, hn, hlet, hct, full, fun H'' p s'' np hp => k' H'' p s'' np hp⟩
    · refine k H' p (e2.trans (ExtN.same s')) (T2.ext s') (fun z => not_ob np (z.ext e2)) ?_
      rw [hp]
      rfl
end
end Pl

namespace L2
open PySem PySem.Spec PyProof.Rows
/-- err.f, err the error that the suite holds, of whatever class of the program's own -/
def tErrFld (K : PySem.W.Frag) (a : Addr) (cls : Value) (d : Option Addr) (f : Str) (te : TE) : TE := fun σ H Q => ∃ C : Addr, XfC K C ∧ PySem.W.findIn K (.ref C) f = some none ∧ tXf a cls d C f te σ H Q
theorem pe_errFld {X : Cx} {a : Addr} {oe : Obj} {cls : Value} {d : Option Addr} {pn : List (Addr × Obj)} {e : Expr} {te : TE} {pos : Pos} {n : Str} (hz : Zc cls d oe) (hf : ∃ vs, oe.data = .fields vs) (he : PE (X.suite a ((a, oe) :: pn)) e te)
    (hb : attributeBase e n X.env (eval e X.env) = eval e X.env := by rfl) : PE (X.suite a ((a, oe) :: pn)) (.Attribute e n pos) (tErrFld X.K a cls d n te) :=
  ⟨fun pins s σ H Q I ⟨_, T, no, h⟩ => (pe_xf T no hz hf he hb).run pins s σ H Q I h⟩
end L2
namespace Pl
open PySem PySem.Spec PyProof.Rows L2
theorem nats_vn : ∀ {l : List Int}, (∀ x ∈ l, 0 ≤ x ∧ x ≤ 255) → l.map V.int = vn (Pm.nats l)
  | [], _ => rfl
  | a :: l, h => by
    have h1 := h a List.mem_cons_self
    have ih := nats_vn (l := l) fun x hx => h x (List.mem_cons_of_mem _ hx)
    show V.int a :: l.map V.int = V.int ((a.toNat : Nat) : Int) :: vn (Pm.nats l)
    rw [ih, Int.toNat_of_nonneg h1.1]
theorem nats_small {l : List Int} (h : ∀ x ∈ l, 0 ≤ x ∧ x ≤ 255) : ∀ b ∈ Pm.nats l, b < 256 := fun b hb => by
  obtain ⟨x, hx, rfl⟩ := List.mem_map.mp hb
  have := h x hx
  omega
theorem nats_len (l : List Int) : (Pm.nats l).length = l.length := List.length_map _
theorem ints_vn (l : List Nat) : (Pm.asInts l).map V.int = vn l := by
  unfold Pm.asInts vn
  rw [List.map_map]
  rfl
/-- what is known of an error's class where it is caught -/
structure Caught (K : PySem.W.Frag) (C CR : Addr) : Prop where
  xf : XfC K C
  no : PySem.W.findIn K (.ref C) "answer" = some none
  te : PySem.W.exmOne K (.ref C) (.ref CR) = some true
/-- return [refusal.answer], the error (at a0) of the class at C with the code n -/
theorem suite_reads {K : PySem.W.Frag} {C CR : Addr} (c : Caught K C CR) {a0 d : Addr} {n : Int} {H : Hp} {D : Ends} {i : Nat} {σ : L2.St} (hσ : σ[i]? = some (some (.ref a0))) (hd : H d = some (.xd (fAns n))) (k : ∀ p H', H' p = some (.lst [.int n]) → D.rt (.ref p) H') :
    tRet (tLst (tCons (tErrFld K a0 (.ref C) (some d) "answer" (tVar i)) tNil)) D σ H := by
  refine ⟨C, c.xf, c.no, _, hσ, rfl, rfl, d, _, _, rfl, hd, ?_, (by show 1 ≤ sizeLine; decide), fun p np => k p _ upd_same⟩
  have e : (("answer" : Str) == ("answer" : Str)) = true := beq_self_eq_true _
  simp only [fAns, List.lookup, e]
end Pl

namespace Pm
/-- width, patterns and text as they are checked -/
def checked (w : Nat) (a b : List Nat) : Except Int (List Kh455.Piece) :=
  if 10 ≤ w ∧ w ≤ 80 then (match Kh450.decodeAll a with
    | none => .error (-24)
    | some t => match pats (Kh455.wordsOf t) with
      | none => .error (-21)
      | some ps => match Kh450.decodeAll b with
        | none => .error (-24)
        | some x => .ok (Kh455.pieces ps x))
  else .error (-22)
theorem over_checked (w : Nat) (a b : List Nat) (f : List Kh455.Piece → List Int) : overPieces w a b f = match checked w a b with
    | .error e => [e]
    | .ok l => f l := by
  unfold overPieces checked
  by_cases h : 10 ≤ w ∧ w ≤ 80
  · rw [if_pos h, if_pos h]
    cases Kh450.decodeAll a with
    | none => rfl
    | some t =>
      dsimp only
      cases pats (Kh455.wordsOf t) with
      | none => rfl
      | some ps =>
        dsimp only
        cases Kh450.decodeAll b <;> rfl
  · rw [if_neg h, if_neg h]
/-- what is known of the pieces of a text that was handed in -/
structure Handed (l : List Kh455.Piece) : Prop where
  full : ∀ p ∈ l, p.content ≠ []
  lets : letters l ≤ 800
  cnt : l.length ≤ 800
end Pm
namespace L2
open PySem PySem.Spec PyProof.Rows
theorem pass_no {X : Cx} (σ : St) : PassesAt (L2.CX X.prog X.w) X σ E0 := fun _ _ _ _ _ _ ⟨_, _, _, _, _, _, _, _, _, _, _, _, h⟩ => h.elim
end L2
namespace Pl
open PySem PySem.Spec PyProof.Rows L2
/-- a call of a def that may raise, but doesn't here -/
theorem pe_dN {X : Cx} {e : Expr} {es : List Expr} {t : TA} {p pos : Pos} {k : Nat} {x : Str} {ps : List Str} {sp : Sp} (D : Def X.prog X.w X.K X.mg X.base (L2.CX X.prog X.w) k x ps sp) (hr : Room k X.A) (ha : PA X (e :: es) t) (hg : Gl X x := by rfl) (hdb : (x == ("__debug__" : Str)) = false := by decide)
    (he : starEach (e :: es) X.env = (false, eval e X.env) :: starEach es X.env := by rfl) (hpl : (backTo pos (starEach es X.env)).any (·.1) = false := by rfl) : PE X (.Call (.Name x p) (e :: es) [] pos) (tCallS sp (fun _ => E0) t) := by
  obtain ⟨f, fd, hm, hk, hb, F⟩ := D
  exact pe_callS F hr hg hm hk hb pass_no ha hdb he hpl
theorem nats_vn0 : ∀ {l : List Int}, (∀ x ∈ l, 0 ≤ x) → l.map V.int = vn (Pm.nats l)
  | [], _ => rfl
  | a :: l, h => by
    have h1 := h a List.mem_cons_self
    have ih := nats_vn0 (l := l) fun x hx => h x (List.mem_cons_of_mem _ hx)
    show V.int a :: l.map V.int = V.int ((a.toNat : Nat) : Int) :: vn (Pm.nats l)
    rw [ih, Int.toNat_of_nonneg h1]
/-- the classes of the errors, and what is known of them where they are caught -/
structure Kinds (K : PySem.W.Frag) (CR CO CP CU : Addr) : Prop where
  o : Caught K CO CR
  p : Caught K CP CR
  u : Caught K CU CR
def isKind (CO CP CU C : Addr) (n : Int) : Prop := (C = CO ∧ n = -22) ∨ (C = CP ∧ n = -21) ∨ (C = CU ∧ n = -24)
theorem Kinds.caught {K : PySem.W.Frag} {CR CO CP CU C : Addr} {n : Int} (x : Kinds K CR CO CP CU) (h : isKind CO CP CU C n) : Caught K C CR := by
  rcases h with ⟨rfl, _⟩ | ⟨rfl, _⟩ | ⟨rfl, _⟩
  · exact x.o
  · exact x.p
  · exact x.u
/-- width, patterns, text: the pieces, or an error -/
def spChecked (K : PySem.W.Frag) (CO CP CU C : Addr) : Sp := fun vs H Q E => ∃ (n : Nat) (a b : Addr) (an bn : List Nat), vs = [.int n, .ref a, .ref b] ∧ SqL K H a (vn an) ∧ SqL K H b (vn bn) ∧ an.length ≤ 600 ∧ bn.length ≤ 600 ∧ (∀ x ∈ an, x < 256) ∧ (∀ x ∈ bn, x < 256) ∧
  (∀ e, Pm.checked n an bn = .error e → ∀ (CE d : Addr) (H' : Hp), isKind CO CP CU CE e → Same H H' → H' d = some (.xd (fAns e)) → E (.ref CE) (some d) H') ∧
  (∀ ps, Pm.checked n an bn = .ok ps → n ≤ 80 → Pm.Handed ps → ∀ (H' : Hp) (m : Addr) (qs : List P3), Same H H' → PcsAt C H' m qs ps → Q (.ref m) H')
/-- the counts of the greedy division -/
def spGreedy (K : PySem.W.Frag) (C : Addr) : Sp := fun vs H Q _ => ∃ (n : Nat) (l : Addr) (qs : List P3) (ps : List Kh455.Piece), vs = [.int n, .ref l] ∧ PcsAt C H l qs ps ∧ n ≤ 100000 ∧ Pm.letters ps ≤ 10000 ∧ ps.length ≤ 10000 ∧ (∀ p ∈ ps, p.content ≠ []) ∧
  ∀ (H' : Hp) (p : Addr), Same H H' → H p = none → H' p = some (.lst (vn (Kh455.greedy n ps))) → Q (.ref p) H'
/-- the cost of a division -/
def spDiv (K : PySem.W.Frag) (C CF : Addr) : Sp := fun vs H Q E => ∃ (n : Nat) (l c : Addr) (qs : List P3) (ps : List Kh455.Piece) (counts : List Nat), vs = [.int n, .ref l, .ref c] ∧ PcsAt C H l qs ps ∧ SqL K H c (vn counts) ∧ n ≤ 100000 ∧ Pm.letters ps ≤ 10000 ∧ ps.length ≤ 10000 ∧
  (Kh455.costOf n counts ps = none → ∀ (d : Addr) (H' : Hp), Same H H' → H' d = some (.xd (fAns (-33))) → E (.ref CF) (some d) H') ∧
  (∀ x, Kh455.costOf n counts ps = some x → ∀ H' : Hp, Same H H' → Q (.int (x : Nat)) H')
/-- how far greedy_counts is -/
def at3 (σ : L2.St) : Nat := match σ[3]? with
  | some (some (V.int i)) => i.toNat
  | _ => 0
section
variable {P : Program} {w : World} {K : PySem.W.Frag} {mg : Str → Option Value} {base : Heap} {f : Addr} {fd : FuncData}
theorem scNfI : FnScope ["self"] ["self"] (defScope sNfI) := ⟨rfl, rfl, rfl, by decide +kernel, rfl, by decide +kernel, by decide +kernel⟩
theorem ok_nfI {C : Addr} (F : Fun K "__init__" "NotFitting.__init__" sNfI f fd) (T : ErrC K C) (no : PySem.W.findIn K (.ref C) "answer" = some none) (B : BaseI P w K mg base) : FnOk P w K mg base CX0 3 f fd ["self"] (spErrI C (-33)) := by
  obtain ⟨CR, fR, mc, fdR, hm, r, c, kp, hb, G⟩ := B.ini
  refine F.ok scNfI (fun vs H Q E h => ?_) (fun cdv A outer s H vs Q E hr h => ⟨_, pss_one (ps_expr (pe_base r c G (hr.mono (by decide)) kp hb pass0 rfl hm (by exact (pa_cons (pv 0) (pa_cons (pe_un un_neg pe_int) pa_nil))))), ?_⟩)
  · obtain ⟨a, rfl, _⟩ := h
    rfl
  · obtain ⟨a, rfl, ha, k⟩ := h
    exact ⟨_, rfl, 33, rfl, a, C, -33, rfl, T, no, ha, k⟩
theorem scChecked : FnScope ["width", "patterns", "text", "known"] ["width", "patterns", "text"] (defScope sChecked) := ⟨rfl, rfl, rfl, by decide +kernel, rfl, by decide +kernel, by decide +kernel⟩
theorem ok_checked {C CO CP CU CQ : Addr} (F : Fun K "checked_pieces" "checked_pieces" sChecked f fd)
    (DK : Def P w K mg base (L2.CX P w) 6 "check_width" ["width"] (spCheck CO))
    (DR : Def P w K mg base (L2.CX P w) 10 "read_utf8" ["octets"] (spRead K CU)) (DP : Def P w K mg base (L2.CX P w) 12 "patterns_of" ["text"] (spPats K C CP))
    (DI : Def P w K mg base CX0 12 "pieces_of" ["patterns", "text"] (spPieces K C CQ)) :
    FnOk P w K mg base (L2.CX P w) 14 f fd ["width", "patterns", "text"] (spChecked K CO CP CU CQ) := by
  refine F.okX scChecked (fun vs H Q E h => ?_) (fun cdv A outer s H vs Q E hr h => ?_)
  · obtain ⟨n, a, b, an, bn, rfl, _⟩ := h
    rfl
  · have hr10 : Room 10 _ := hr.mono (by decide)
    have hr12 : Room 12 _ := hr.mono (by decide)
    have hr6 : Room 6 _ := hr.mono (by decide)
    refine ⟨_, pss_cons (ps_expr (pe_dX DK hr6 (takes_of rfl rfl rfl rfl) (by exact (pa_cons (pv 0) pa_nil))))
      (pss_cons (ps_set (i := 3) scChecked.nd rfl (Or.inl rfl) (pe_dX DP hr12 (takes_of rfl rfl rfl rfl) (by exact (pa_cons (pe_dX DR hr10 (takes_of rfl rfl rfl rfl) (by exact (pa_cons (pv 1) pa_nil))) pa_nil))))
      (pss_one (ps_ret (pe_d DI hr12 (by exact (pa_cons (pv 3) (pa_cons (pe_dX DR hr10 (takes_of rfl rfl rfl rfl) (by exact (pa_cons (pv 2) pa_nil))) pa_nil))))))), ?_⟩
    obtain ⟨n, a, b, an, bn, rfl, ha, hb, la, lb, sa, sb, kN, kS⟩ := h
    unfold Pm.checked at kN kS
    refine ⟨_, rfl, n, rfl, fun hw d nd => ?_, fun hw => ?_⟩
    · rw [if_neg hw] at kN
      exact kN _ rfl CO d _ (.inl ⟨rfl, rfl⟩) ((Same.refl H).new nd) upd_same
    rw [if_pos hw] at kN kS
    refine ⟨_, rfl, a, an, rfl, ha, la, sa, fun e d H1 s1 hd => ?_, fun t et H1 p1 s1 hp1 => ?_⟩
    · simp only [e] at kN
      exact kN _ rfl CU d _ (.inr (.inr ⟨rfl, rfl⟩)) s1 hd
    · simp only [et] at kN kS
      have lt := Pm.decode_len _ an t (Nat.le_refl _) et
      refine ⟨p1, t, rfl, SqL.of hp1, (by omega), fun e d H2 s2 hd => ?_, fun ps ep H2 l qs s2 hP => ?_⟩
      · simp only [e] at kN
        exact kN _ rfl CP d _ (.inr (.inl ⟨rfl, rfl⟩)) (s1.trans s2) hd
      · simp only [ep] at kN kS
        have good := Pm.pats_good ep
        refine ⟨_, rfl, _, rfl, b, bn, rfl, (s1.trans s2).seq hb, lb, sb, fun e d H3 s3 hd => ?_, fun tx ew H3 p3 s3 hp3 => ?_⟩
        · simp only [e] at kN
          exact kN _ rfl CU d _ (.inr (.inr ⟨rfl, rfl⟩)) ((s1.trans s2).trans s3) hd
        · simp only [ew] at kN kS
          have lw := Pm.decode_len _ bn tx (Nat.le_refl _) ew
          refine ⟨l, p3, qs, ps, tx, rfl, hP.same s3, fun p hp => ⟨(good p hp).some_, (good p hp).lv, Nat.le_trans (good p hp).short (by omega)⟩, SqL.of hp3, (by omega), fun H4 p4 q4 P4 => ?_⟩
          have full := Pm.pieces_full ps tx fun p hp => (good p hp).some_
          have lets := Pm.pieces_letters ps tx
          have cnt := Pm.count_le _ full
          exact kS _ rfl hw.2 ⟨full, by omega, by omega⟩ H4 p4 q4 (((s1.trans s2).trans s3).trans P4.same) P4.at_
theorem scDiv : FnScope ["width", "pieces", "counts", "total", "start", "count", "end", "length"] ["width", "pieces", "counts"] (defScope sDiv) := ⟨rfl, rfl, rfl, by decide +kernel, rfl, by decide +kernel, by decide +kernel⟩
theorem ok_div {C CF : Addr} (F : Fun K "division_cost" "division_cost" sDiv f fd) (T : TPc K mg C) (ml : mg "len" = none) (TE : Err P w K mg base "NotFitting" CF (-33))
    (DL : Def P w K mg base CX0 2 "line_text" ["pieces"] (spLine C)) (DC : Def P w K mg base CX0 2 "line_cost" ["width", "length", "joint", "is_last"] spLineCost) : FnOk P w K mg base (L2.CX P w) 6 f fd ["width", "pieces", "counts"] (spDiv K C CF) := by
  refine F.okX scDiv (fun vs H Q E h => ?_) (fun cdv A outer s H vs Q E hr h => ?_)
  · obtain ⟨n, l, c, qs, ps, counts, rfl, _⟩ := h
    rfl
  · have hr2 : Room 2 _ := hr.mono (by decide)
    have hr4 : Room 4 _ := hr.mono (by decide)
    refine ⟨_, pss_cons (ps_set (i := 3) scDiv.nd rfl (Or.inl rfl) pe_int)
      (pss_cons (ps_set (i := 4) scDiv.nd rfl (Or.inl rfl) pe_int)
      (pss_cons (ps_for (passes_of rfl) rfl (pi_list (pv 2)) (pg_name (i := 5) scDiv.nd rfl (Or.inl rfl))
        (pss_cons (ps_set (i := 6) scDiv.nd rfl (Or.inl rfl) (pe_op op_add (pv 4) (pv 5)))
        (pss_cons (ps_if (PW.pt (pw_or (pt_cmpR op_eq (pv 5) pe_int (nomark _)) (pw_or1 (pt_cmpR op_gt (pv 6) (pe_callB call_len_seq (by rfl) ml PySem.boot_len (pa_cons (pv 1) pa_nil)) (nomark _))))) (pss_one (ps_refuse rfl TE hr4 (takes_of rfl rfl rfl rfl))) pss_nil)
        (pss_cons (ps_set (i := 7) scDiv.nd rfl (Or.inl rfl) (pe_callB call_len_seq (by rfl) ml PySem.boot_len (pa_cons (pe_d DL hr2 (by exact (pa_cons (pe_slice sl_list (pv 1) (po_some (pv 4)) (po_some (pv 6))) pa_nil))) pa_nil)))
        (pss_cons (ps_if (PW.pt (pw_and (pt_cmpR op_gt (pv 7) (pv 0) (nomark _)) (pw_and1 (pt_cmpR op_gt (pv 5) pe_int (nomark _))))) (pss_one (ps_refuse rfl TE hr4 (takes_of rfl rfl rfl rfl))) pss_nil)
        (pss_cons (ps_aug (i := 3) scDiv.nd rfl (.inl rfl) (pe_d DC hr2 (by exact (pa_cons (pv 0) (pa_cons (pv 7) (pa_cons (pe_fld (pe_ix ix_list (pv 1) (pe_op op_sub (pv 6) pe_int) (fun _ _ => rfl)) rfl) (pa_cons (pe_cmpR op_eq (pv 6) (pe_callB call_len_seq (by rfl) ml PySem.boot_len (pa_cons (pv 1) pa_nil)) (nomark _)) pa_nil)))))) ip_add)
        (pss_one (ps_set (i := 4) scDiv.nd rfl (Or.inl rfl) (pv 6)))))))))
      (pss_cons (ps_if (pt_cmpR op_lt (pv 4) (pe_callB call_len_seq (by rfl) ml PySem.boot_len (pa_cons (pv 1) pa_nil)) (nomark _)) (pss_one (ps_refuse rfl TE hr4 (takes_of rfl rfl rfl rfl))) pss_nil)
      (pss_one (ps_ret (pv 3)))))), ?_⟩
    obtain ⟨n, l, c, qs, ps, counts, rfl, hP, hS, hn, hlet, hct, kN, kS⟩ := h
    have big : 1000000 ≤ sizeLine := by decide
    have hl3 : (refs3 qs).length = ps.length := by rw [refs3_len, hP.len]
    rw [← Pm.goes_start] at kN kS
    -- what a raise hands on
    have refuse : Pm.goesOn n ps counts 0 0 = none → ∀ H1, Same H H1 → ∀ d, H1 d = none → E (.ref CF) (some d) (upd H1 d (.xd (fAns (-33)))) := fun e H1 s1 d nd => kN e d _ (s1.new nd) upd_same
    refine ⟨_, rfl, c, rfl, ⟨_, hS⟩, for_list (K := K) (a := c) (xs := vn counts)
      (fun i σ H' => ∃ (st tot : Nat) (x5 x6 x7 : Option V), σ = [some (.int n), some (.ref l), some (.ref c), some (.int tot), some (.int st), x5, x6, x7] ∧ Same H H' ∧ st ≤ ps.length ∧
        Pm.goesOn n ps counts 0 0 = Pm.goesOn n ps (counts.drop i) st tot)
      ⟨0, 0, none, none, none, rfl, Same.refl H, Nat.zero_le _, rfl⟩ (fun i σ H' _ ⟨_, _, _, _, _, _, s2, _⟩ => s2.seq hS) ?_ ?_⟩
    · rintro i x σ H' hi ⟨st, tot, x5, x6, x7, rfl, s2, hst, hdue⟩
      obtain ⟨ct, hcn, rfl⟩ := vn_of hi
      have hdrop : counts.drop i = ct :: counts.drop (i + 1) := by
        obtain ⟨h1, h2⟩ := List.getElem?_eq_some_iff.mp hcn
        rw [← h2]
        exact List.drop_eq_getElem_cons h1
      rw [hdrop] at hdue
      have place : (st : Int) + (ct : Int) = ((st + ct : Nat) : Int) := rfl
      refine ⟨_, rfl, _, rfl, _, _, rfl, rfl, ?_⟩
      refine ⟨_, rfl, rfl, _, rfl, ?_⟩
      by_cases h0 : ct = 0
      · refine if_true_of (decide_eq_true (by rw [h0]; rfl)) (iteT fun d nd => refuse ?_ H' s2 d nd)
        rw [hdue]
        exact Pm.goes_bad n ps ct _ st tot hst (.inl h0)
      refine if_false_of (decide_eq_false fun z => h0 ?_) ?_
      · have z : (ct : Int) = 0 := V.int.inj z
        omega
      refine ⟨_, rfl, _, rfl, l, _, rfl, .inl (s2.seq (SqL.of hP.lst)), _, _, rfl, rfl, _, rfl, ?_⟩
      rw [hl3]
      by_cases h1 : ps.length < st + ct
      · refine if_true_of (decide_eq_true (by omega)) fun d nd => refuse ?_ H' s2 d nd
        rw [hdue]
        exact Pm.goes_bad n ps ct _ st tot hst (.inr h1)
      refine if_false_of (decide_eq_false (by omega)) ?_
      -- length = len(line_text(pieces[start:end]))
      refine ⟨_, rfl, _, rfl, _, rfl, _, rfl, _, rfl, l, _, rfl, s2.seq (SqL.of hP.lst), fun p np => ?_⟩
      have hcut : cutV (refs3 qs) (some (st : Int)) (some ((st : Int) + (ct : Int))) = refs3 ((qs.drop st).take ct) := by
        rw [place]
        exact cut_refs qs st ct (by rw [hP.len]; exact hst)
      have s3 : Same H' (upd H' p (.lst (cutV (refs3 qs) (some (st : Int)) (some ((st : Int) + (ct : Int)))))) := (Same.refl H').new np
      have hp : upd H' p (.lst (cutV (refs3 qs) (some (st : Int)) (some ((st : Int) + (ct : Int))))) p = some (.lst (refs3 ((qs.drop st).take ct))) := by
        rw [upd_same, hcut]
      generalize upd H' p (.lst (cutV (refs3 qs) (some (st : Int)) (some ((st : Int) + (ct : Int))))) = H3 at s3 hp
      have part := hP.part (s2.trans s3) st ct hp
      refine ⟨p, _, _, rfl, part, ?_, Nat.le_trans (Pm.letters_take_drop ps st ct) (by omega), ?_, fun H4 t s4 ft ht => ?_⟩
      · intro z
        have := congrArg List.length z
        rw [List.length_take, List.length_drop, List.length_nil] at this
        omega
      · rw [List.length_take, List.length_drop]
        omega
      have linelen := Pm.line_len ((ps.drop st).take ct)
      have lt2 := Pm.letters_take_drop ps st ct
      have lt3 : ((ps.drop st).take ct).length ≤ ps.length := by
        rw [List.length_take, List.length_drop]
        omega
      have more := Pm.goes_more n ps ct (counts.drop (i + 1)) st tot (by omega) (by omega)
      have long := Pm.goes_long n ps ct (counts.drop (i + 1)) st tot (by omega) (by omega)
      refine ⟨t, _, rfl, .inl (SqL.of ht), ?_⟩
      have et : (vn (Kh455.lineText ((ps.drop st).take ct))).length = (Kh455.lineText ((ps.drop st).take ct)).length := vn_len _
      rw [et]
      generalize (Kh455.lineText ((ps.drop st).take ct)).length = len at *
      have s5 := (s2.trans s3).trans s4
      -- total += ..
      have go : ∀ D : Ends, ¬ (n < len ∧ 1 < ct) → (∀ σ' H3, (∃ (st tot : Nat) (x5 x6 x7 : Option V), σ' = [some (.int n), some (.ref l), some (.ref c), some (.int tot), some (.int st), x5, x6, x7] ∧ Same H H3 ∧ st ≤ ps.length ∧
          Pm.goesOn n ps counts 0 0 = Pm.goesOn n ps (counts.drop (i + 1)) st tot) → D.nx σ' H3) →
          tSeq (tAug 3 (tCallS spLineCost (fun _ => E0) (tCons (tVar 0) (tCons (tVar 7) (tCons (tFld K (tOp (rIxL K) (tVar 1) (tOp (rI0 fun i j => .int (i - j)) (tVar 6) (tC (.int 1)))) "joint") (tCons (tOp rEq (tVar 6) (tCB (rLen K) (tCons (tVar 1) tNil))) tNil))))) (ipI fun i j => i + j)) (tAsg (tVar 6) (gName 4)) D
            [some (.int n), some (.ref l), some (.ref c), some (.int tot), some (.int st), some (.int ct), some (.int ((st : Int) + (ct : Int))), some (.int len)] H4 := fun D hno hk => by
        have hin : st + ct - 1 < ps.length := by omega
        have hpk := List.getElem?_eq_getElem hin
        obtain ⟨q, hqk⟩ : ∃ q, qs[st + ct - 1]? = some q := ⟨qs[st + ct - 1]'(by rw [hP.len]; exact hin), List.getElem?_eq_getElem _⟩
        have pat := (hP.at_ _ q _ hqk hpk).same s5
        have jt : Pm.jointAt ps (st + ct - 1) = (ps[st + ct - 1]).joint := by
          unfold Pm.jointAt
          rw [hpk]
          rfl
        rw [jt] at more
        generalize ps[st + ct - 1] = pv at *
        have hrefs : (refs3 qs)[st + ct - 1]? = some (V.ref q.1) := by
          rw [List.getElem?_map, hqk]
          rfl
        have e2 : (st : Int) + (ct : Int) - 1 = ((st + ct - 1 : Nat) : Int) := by omega
        refine ⟨_, rfl, _, rfl, _, rfl, _, rfl, _, rfl, _, _, rfl, rfl, l, _, _, .ref q.1, rfl, rfl, s5.seq (SqL.of hP.lst), (by rw [e2]; exact atI_nat hrefs), ?_⟩
        refine ⟨q.1, C, q.2.1, _, _, rfl, pat.ins, T.cl, T.nJ, fPiece_jt _ _, _, rfl, _, rfl, l, _, rfl, .inl (s5.seq (SqL.of hP.lst)), rfl, ?_⟩
        rw [hl3]
        have elast : decide (V.int ((st : Int) + (ct : Int)) = V.int (ps.length : Nat)) = decide (st + ct = ps.length) := by
          rw [decide_eq_decide]
          constructor
          · intro z
            have z : (st : Int) + (ct : Int) = (ps.length : Nat) := V.int.inj z
            omega
          · intro z
            rw [place, z]
        rw [elast]
        refine ⟨n, len, pv.joint, _, rfl, hn, (by omega), ?_⟩
        refine ⟨_, _, rfl, rfl, _, rfl, ?_⟩
        refine hk _ _ ⟨st + ct, tot + Pm.lCost n len pv.joint (decide (st + ct = ps.length)), _, _, _, rfl, s5, (by omega), ?_⟩
        rw [hdue]
        exact more hno
      refine ⟨_, rfl, _, rfl, _, _, rfl, rfl, _, rfl, ?_⟩
      by_cases hw : n < len
      · refine if_true_of (decide_eq_true (by omega)) ?_
        refine ⟨_, rfl, _, _, rfl, rfl, _, rfl, ?_⟩
        by_cases hc : 1 < ct
        · refine if_true_of (decide_eq_true (by omega)) fun d nd => refuse ?_ H4 s5 d nd
          rw [hdue]
          exact long ⟨hw, hc⟩
        · exact if_false_of (decide_eq_false (by omega)) (go _ (fun z => hc z.2) fun _ _ h => h)
      · exact if_false_of (decide_eq_false (by omega)) (iteF (go _ (fun z => hw z.1) fun _ _ h => h))
    · rintro σ H' ⟨st, tot, x5, x6, x7, rfl, s2, hst, hdue⟩
      rw [vn_len] at hdue
      have e0 : counts.drop counts.length = [] := List.drop_eq_nil_of_le (Nat.le_refl _)
      rw [e0, Pm.goes_end n ps st tot hst] at hdue
      refine ⟨_, rfl, _, rfl, l, _, rfl, .inl (s2.seq (SqL.of hP.lst)), _, _, rfl, rfl, _, rfl, ?_⟩
      rw [hl3]
      by_cases h1 : st < ps.length
      · rw [if_pos h1] at hdue
        exact if_true_of (decide_eq_true (by omega)) fun d nd => refuse hdue H' s2 d nd
      · rw [if_neg h1] at hdue
        exact if_false_of (decide_eq_false (by omega)) ⟨_, rfl, kS _ hdue H' s2⟩
end
end Pl

namespace Pl
open PySem PySem.Spec PyProof.Rows L2
open LamX (Tabs)
/-! ### the operations over pieces -/
/-- the promise of the whole -/
def spBreak (K : PySem.W.Frag) (T : List (Addr × PySem.Str)) : Sp := fun vs H Q _ => ∃ (n : Nat) (a b : Addr) (ns ms : List Int), vs = [.int n, .ref a, .ref b] ∧ Tabs T H ∧ SqL K H a (ns.map V.int) ∧ SqL K H b (ms.map V.int) ∧
  ns.length ≤ 600 ∧ ms.length ≤ 600 ∧ (∀ x ∈ ns, 0 ≤ x ∧ x ≤ 255) ∧ (∀ x ∈ ms, 0 ≤ x ∧ x ≤ 255) ∧ ∀ (H' : Hp) (p : Addr), H' p = some (.lst ((PyKh455.break_text n ns ms).map V.int)) → Q (.ref p) H'
def spCost (K : PySem.W.Frag) (T : List (Addr × PySem.Str)) : Sp := fun vs H Q _ => ∃ (n : Nat) (a b : Addr) (ns ms : List Int), vs = [.int n, .ref a, .ref b] ∧ Tabs T H ∧ SqL K H a (ns.map V.int) ∧ SqL K H b (ms.map V.int) ∧
  ns.length ≤ 600 ∧ ms.length ≤ 600 ∧ (∀ x ∈ ns, 0 ≤ x ∧ x ≤ 255) ∧ (∀ x ∈ ms, 0 ≤ x ∧ x ≤ 255) ∧ ∀ (H' : Hp) (p : Addr), H' p = some (.lst ((PyKh455.cost n ns ms).map V.int)) → Q (.ref p) H'
def spGreedyText (K : PySem.W.Frag) : Sp := fun vs H Q _ => ∃ (n : Nat) (a b : Addr) (ns ms : List Int), vs = [.int n, .ref a, .ref b] ∧ SqL K H a (ns.map V.int) ∧ SqL K H b (ms.map V.int) ∧
  ns.length ≤ 600 ∧ ms.length ≤ 600 ∧ (∀ x ∈ ns, 0 ≤ x ∧ x ≤ 255) ∧ (∀ x ∈ ms, 0 ≤ x ∧ x ≤ 255) ∧ ∀ (H' : Hp) (p : Addr), H' p = some (.lst ((PyKh455.greedy_text n ns ms).map V.int)) → Q (.ref p) H'
def spCostOf (K : PySem.W.Frag) : Sp := fun vs H Q _ => ∃ (n : Nat) (a b c : Addr) (ns ms cs : List Int), vs = [.int n, .ref a, .ref b, .ref c] ∧ SqL K H a (ns.map V.int) ∧ SqL K H b (ms.map V.int) ∧ SqL K H c (cs.map V.int) ∧
  ns.length ≤ 600 ∧ ms.length ≤ 600 ∧ (∀ x ∈ ns, 0 ≤ x ∧ x ≤ 255) ∧ (∀ x ∈ ms, 0 ≤ x ∧ x ≤ 255) ∧ (∀ x ∈ cs, 0 ≤ x) ∧ ∀ (H' : Hp) (p : Addr), H' p = some (.lst ((PyKh455.cost_of n ns ms cs).map V.int)) → Q (.ref p) H'
section
variable {P : Program} {w : World} {K : PySem.W.Frag} {mg : Str → Option Value} {base : Heap} {f : Addr} {fd : FuncData}
theorem scCost : FnScope ["width", "patterns", "text", "pieces", "refusal", "counts"] ["width", "patterns", "text"] (defScope sCost) := ⟨rfl, rfl, rfl, by decide +kernel, rfl, by decide +kernel, by decide +kernel⟩
theorem ok_cost {T : List (Addr × PySem.Str)} {CR CO CP CU CQ CF : Addr} (F : Fun K "cost" "cost" sCost f fd) (gR : mg "Refusal" = some (.ref CR)) (KK : Kinds K CR CO CP CU) (ml : mg "len" = none)
    (DH : Def P w K mg base (L2.CX P w) 14 "checked_pieces" ["width", "patterns", "text"] (spChecked K CO CP CU CQ)) (DB : Def P w K mg base CX0 7 "best_counts" ["width", "pieces"] (spBest CQ T))
    (DV : Def P w K mg base (L2.CX P w) 6 "division_cost" ["width", "pieces", "counts"] (spDiv K CQ CF)) :
    FnOk P w K mg base CX0 18 f fd ["width", "patterns", "text"] (spCost K T) := by
  refine F.ok scCost (fun vs H Q E h => ?_) (fun cdv A outer s H vs Q E hr h => ?_)
  · obtain ⟨n, a, b, ns, ms, rfl, _⟩ := h
    rfl
  · have hr14 : Room 14 _ := hr.mono (by decide)
    have hr6 : Room 6 _ := hr.mono (by decide)
    have hr4 : Room 4 _ := hr.mono (by decide)
    have hr7 : Room 7 _ := hr.mono (by decide)
    refine ⟨_, pss_cons (ps_try_as (i := 4)
        (tb := fun W => tAsg (tCallS (spChecked K CO CP CU CQ) (WE W) (tCons (tVar 0) (tCons (tVar 1) (tCons (tVar 2) tNil)))) (gName 3))
        (ts := fun a cls d => tRet (tLst (tCons (tErrFld K a cls d "answer" (tVar 4)) tNil))) (Wout := fun _ _ _ _ => False) rfl rfl scCost.nd rfl rfl ⟨rfl, by decide, Or.inl gR⟩ takes0
        (fun W pn xe tk _ => pss_one (ps_set (i := 3) scCost.nd rfl (Or.inl rfl) (by exact (pe_dX DH hr14 tk (by exact (pa_cons (pv 0) (pa_cons (pv 1) (pa_cons (pv 2) pa_nil))))))))
        (fun a oe cls d pn hz hf => pss_one (ps_ret (pe_lst (by exact (pa_cons (pe_errFld hz hf (pv 4)) pa_nil))))))
      (pss_cons (ps_set (i := 5) scCost.nd rfl (Or.inl rfl) (pe_d DB hr7 (by exact (pa_cons (pv 0) (pa_cons (pv 3) pa_nil)))))
      (pss_one (ps_ret (pe_lst (by exact (pa_cons (pe_dN DV hr6 (by exact (pa_cons (pv 0) (pa_cons (pv 3) (pa_cons (pv 5) pa_nil))))) (pa_cons (pe_callB call_len_seq (by rfl) ml PySem.boot_len (pa_cons (pv 5) pa_nil)) pa_nil))))))), ?_⟩
    obtain ⟨n, a, b, ns, ms, rfl, hT, ha, hb, hna, hnb, ba, bb, k⟩ := h
    have due := (Pm.cost_eq n ns ms).trans (Pm.over_checked _ _ _ _)
    have en : ((n : Nat) : Int).toNat = n := Int.toNat_natCast n
    rw [en] at due
    rw [nats_vn ba] at ha
    rw [nats_vn bb] at hb
    have la : (Pm.nats ns).length ≤ 600 := by rw [nats_len]; exact hna
    have lb : (Pm.nats ms).length ≤ 600 := by rw [nats_len]; exact hnb
    have sa := nats_small ba
    have sb := nats_small bb
    generalize Pm.nats ns = an at *
    generalize Pm.nats ms = bn at *
    refine ⟨_, rfl, _, rfl, _, rfl, n, a, b, an, bn, rfl, ha, hb, la, lb, sa, sb, fun e he CE d H1 hk s1 hd => ?_, fun pc hpc hn hh H4 p4 q4 s4 P4 => ?_⟩
    · refine ⟨true, (KK.caught hk).te, fun _ a0 _ => suite_reads (KK.caught hk) rfl hd fun p H2 h2 => k H2 p ?_, fun q => Bool.noConfusion q⟩
      rw [due, he]
      exact h2
    · rw [hpc] at due
      dsimp only at due
      have full := hh.full
      have lets := hh.lets
      have cnt := hh.cnt
      have is := Pm.costOf_best n pc.length pc (Nat.le_refl _) full
      refine ⟨_, rfl, _, rfl, n, p4, q4, pc, rfl, Tabs.ext hT s4, P4, (by omega), (by omega), (by omega), full, fun H5 p5 s5 T5 n5 hp5 => ?_⟩
      refine ⟨_, rfl, _, rfl, _, rfl, n, p4, p5, q4, pc, _, rfl, P4.ext s5, SqL.of hp5, (by omega), (by omega), (by omega), (fun e => by rw [is] at e; cases e), fun x hx H6 s6 => ?_⟩
      rw [is] at hx
      cases hx
      refine ⟨_, rfl, p5, _, rfl, .inl (SqL.of (s6 _ _ hp5)), (by show 2 ≤ sizeLine; decide), fun p7 np7 => k _ p7 ?_⟩
      rw [upd_same, due, vn_len]
      rfl
end
end Pl

/-! ### the end of a row whose defs make lambdas: the tables of their code objects are tracked -/
namespace L2
open PySem PySem.Spec PyProof.Rows LamX
open PySem.W (WData Codec OpenSpec Well WellAll ReadsW ReadsAllW)
/-- the arguments' objects, and the tables (all of them empty) -/
def tabH (K : PySem.W.Frag) (h : Heap) (A ts : List Addr) : Hp := fun b => if b ∈ ts then some (.tbl #[]) else argH K h A b
theorem tabH_in {K : PySem.W.Frag} {h : Heap} {A ts : List Addr} {b : Addr} (hb : b ∈ ts) : tabH K h A ts b = some (.tbl #[]) := if_pos hb
theorem tabH_out {K : PySem.W.Frag} {h : Heap} {A ts : List Addr} {b : Addr} (hb : b ∉ ts) : tabH K h A ts b = argH K h A b := if_neg hb
abbrev emptyT : Obj := { cls := .none, data := .fields #[] }
section
variable {K : PySem.W.Frag} {h : Heap} {A ts : List Addr}
theorem arg_no_tab (ar : ∀ a ∈ A, ArgOb h A a) (ht : ∀ t ∈ ts, h.get? t = some emptyT) {t : Addr} (m : t ∈ ts) : argH K h A t = none := by
  cases q : argH K h A t with
  | none => rfl
  | some u =>
    have e := ht t m
    obtain ⟨_, us, _, _, z | z⟩ := argH_is ar q
    · rw [z.1] at e
      cases e
    · rw [z.1] at e
      cases e
theorem tabH_same (ar : ∀ a ∈ A, ArgOb h A a) (ht : ∀ t ∈ ts, h.get? t = some emptyT) : Same (argH K h A) (tabH K h A ts) := fun b o e => by
  by_cases m : b ∈ ts
  · rw [arg_no_tab ar ht m] at e
    cases e
  · rw [tabH_out m]
    exact e
theorem tabH_ok {P : Program} {w : World} (ar : ∀ a ∈ A, ArgOb h A a) (ht : ∀ t ∈ ts, h.get? t = some emptyT) : HOk P w (tabH K h A ts) h := fun b u e => by
  by_cases m : b ∈ ts
  · rw [tabH_in m] at e
    cases e
    exact ht b m
  · rw [tabH_out m] at e
    refine (argH_ok ar b u e).stay (fun _ _ _ q => q) (fun c q => ?_) fun c xs q => ?_
    · exact tabH_same ar ht c _ q
    · exact tabH_same ar ht c _ q
theorem tabH_cases (ar : ∀ a ∈ A, ArgOb h A a) (b : Addr) : tabH K h A ts b = none ∨ b ∈ ts ∨ ∃ o u, tabH K h A ts b = some (.frz o u) := by
  by_cases m : b ∈ ts
  · exact .inr (.inl m)
  · rw [tabH_out m]
    rcases argH_only ar b with z | z
    · exact .inl z
    · exact .inr (.inr z)
/-- what has another form than lists, tuples, empty tables isn't tracked -/
theorem tabH_free (ar : ∀ a ∈ A, ArgOb h A a) (ht : ∀ t ∈ ts, h.get? t = some emptyT) {b : Addr} {o : Obj} (e : h.get? b = some o) (h1 : ∀ us n, o.data ≠ .seq us n) (h2 : o.data ≠ .fields #[]) : tabH K h A ts b = none := by
  by_cases m : b ∈ ts
  · have q := ht b m
    rw [e] at q
    exact absurd (congrArg Obj.data (Option.some.inj q)) h2
  · rw [tabH_out m]
    cases q : argH K h A b with
    | none => rfl
    | some u =>
      obtain ⟨_, us, _, _, z | z⟩ := argH_is ar q
      · rw [z.1] at e
        cases e
        exact absurd rfl (h1 _ _)
      · rw [z.1] at e
        cases e
        exact absurd rfl (h1 _ _)
end
/-- the call of the row's def -/
theorem call_tabs {P : Program} {w : World} {K : PySem.W.Frag} {mg mb : Str → Option Value} {k : Nat} {fa : Addr} {fd : FuncData} {ps : List Str} {sp : Sp} {s1 : Shared} {vals : List Value} {ds : List WData} {R : PySem.W.WRecords} {cl : Str → Option Addr} {d0 : WData} {cs : List (Addr × Addr)}
    (hK : K.In s1.heap) (nsG : s1.heap.Ns mainGlobals mg) (nsB : s1.heap.Ns builtinsNs mb) (isB : ∀ x : Str, x ≠ "__name__" → mb x = bootBuiltins x) (noL : s1.heap.NoLimit) (noG : s1.gens = #[])
    (hT : ∀ p ∈ cs, s1.heap.get? p.2 = some emptyT) (nT : ∀ p ∈ cs, K.lookup p.2 = none) (hC : ∀ p ∈ cs, PySem.W.CodeHd s1.heap p.1 p.2)
    (hB : ∃ (bm : Addr) (ob : Obj), mg "__builtins__" = some (.ref bm) ∧ bm ≠ builtinsNs ∧ s1.heap.get? bm = some ob ∧ ob.cls = .type "module" ∧ ob.dict = some builtinsNs ∧ ob.data = .plain)
    (wl : WellAll w.params s1.heap vals ds) (pl : plWs ds = true) (wt : ∀ d ∈ ds, d.weight ≤ 1048576) (room : Room k callerA)
    (F : ∀ base : Heap, K.In base → base.Ns mainGlobals mg → (∀ p ∈ cs, TabB base mg p.1 p.2) → FnOk P w K mg base CX0 k fa fd ps sp) (bind : ∀ (s : Shared) (us : List Value), us.length = ps.length → BindsTo s fd ⟨us, []⟩ (ps.zip us)) (len : ds.length = ps.length)
    (hsp : ∀ (H0 H : Hp) (xs : List V), DwAll K H0 xs ds → Same H0 H → (∀ p ∈ cs, H p.2 = some (.tbl #[])) → sp xs H (fun v H' => Dw K H' v d0) fun _ _ _ => False) :
    codeAny (model P w) callerA (.call (.ref fa) ⟨vals, []⟩) (fun r s' => ∃ u as, r = .ok (.ret u) ∧ ReadsW R cl s'.heap u d0 as ∧ OldK s1.heap s'.heap ∧ s'.os = s1.os ∧ AllBare s'.gens) s1 := by
  obtain ⟨A, okU, ar⟩ := area_all ds vals wl pl wt
  have mem : ∀ {p : Addr × Addr}, p ∈ cs → p.2 ∈ cs.map (·.2) := fun hp => List.mem_map.mpr ⟨_, hp, rfl⟩
  have ht : ∀ t ∈ cs.map (·.2), s1.heap.get? t = some emptyT := fun t m => by
    obtain ⟨p, hp, e⟩ := List.mem_map.mp m
    rw [← e]
    exact hT p hp
  have dw := dw_all hK ar ds vals wl pl okU
  have vv := vals_toV okU
  have same := tabH_same (K := K) ar ht
  have ok : HOk P w (tabH K s1.heap A (cs.map (·.2))) s1.heap := tabH_ok ar ht
  have cases_ := tabH_cases (K := K) (ts := cs.map (·.2)) ar
  have freeOf := fun {b : Addr} {o : Obj} => tabH_free (K := K) (b := b) (o := o) ar ht
  have inK : ∀ b o, K.lookup b = some o → tabH K s1.heap A (cs.map (·.2)) b = none := fun b o e => by
    by_cases m : b ∈ cs.map (·.2)
    · obtain ⟨p, hp, q⟩ := List.mem_map.mp m
      rw [← q, nT p hp] at e
      cases e
    · rw [tabH_out m]
      cases q : argH K s1.heap A b with
      | none => rfl
      | some u =>
        rw [(argH_is ar q).1] at e
        cases e
  have tabs : ∀ p ∈ cs, tabH K s1.heap A (cs.map (·.2)) p.2 = some (.tbl #[]) := fun p hp => tabH_in (mem hp)
  have due := hsp _ _ _ dw same tabs
  generalize tabH K s1.heap A (cs.map (·.2)) = H at *
  have lay : ∀ {b : Addr} {o : Obj}, s1.heap.get? b = some o → H b = none → (hidT s1.heap H).get? b = some o := fun {b o} e n => hidT_get e n
  have layNs : ∀ {b : Addr} {m : Str → Option Value}, s1.heap.Ns b m → (hidT s1.heap H).Ns b m := fun {b m} x => by
    obtain ⟨o, es, ep, e, d, r⟩ := x
    refine ⟨o, es, ep, lay e (freeOf e (fun us n z => ?_) fun z => ?_), d, r⟩
    · rw [d] at z
      cases z
    · rw [d] at z
      cases z
  have bK : K.In (hidT s1.heap H) := fun b o e => lay (hK b o e) (inK b o e)
  have bM : Mod K mg (hidT s1.heap H) := by
    obtain ⟨mc, q1, q2⟩ := noL
    exact ⟨bK, layNs nsG, ⟨mb, layNs nsB, isB⟩, ⟨mc, layNs q1, q2⟩⟩
  have bT : ∀ p ∈ cs, TabB (hidT s1.heap H) mg p.1 p.2 := fun p hp => by
    have hTp := hT p hp
    refine ⟨?_, ?_, fun z => ?_⟩
    · obtain ⟨o, us, fl, tf, gs, tg, inF, tx, tt, e1, r1, r2, r3, rr⟩ := hC p hp
      refine ⟨o, us, fl, tf, gs, tg, inF, tx, tt, lay e1 (freeOf e1 (fun vs n z => ?_) fun z => ?_), r1, r2, r3, rr⟩
      · rw [r2] at z
        cases z
      · rw [r2] at z
        cases z
        simp at r3
    · obtain ⟨bm, ob, b1, b2, b3, b4, b5, b6⟩ := hB
      have notG : bm ≠ mainGlobals := fun q => by
        obtain ⟨o, es, ep, e, hd, _⟩ := nsG
        rw [q, e] at b3
        cases b3
        rw [hd] at b6
        cases b6
      have notT : bm ≠ p.2 := fun q => by
        rw [q, hTp] at b3
        cases b3
        cases b6
      refine ⟨bm, ob, b1, b2, notG, notT, lay b3 (freeOf b3 (fun vs n z => ?_) fun z => ?_), b4, b5, b6⟩
      · rw [b6] at z
        cases z
      · rw [b6] at z
        cases z
    · obtain ⟨o, es, ep, e, hd, _⟩ := nsG
      rw [z, hTp] at e
      cases e
      cases hd
  have e0 : Env0 P w K mg (hidT s1.heap H) callerA [] s1 H :=
    ⟨rfl, bM, fun b o e => of_hidT e, Nat.le_of_eq (hidT_size _ _), trivial, fun b hb => (List.not_mem_nil hb).elim, ok, .of_eq noG⟩
  have vl : vals.length = ps.length := (wellAll_len wl).trans len
  have run := (F _ bK (layNs nsG) bT).run callerA [] s1 H ⟨vals, []⟩ vals (vals.map toV) (fun v H' => Dw K H' v d0) (fun _ _ _ => False) room e0 (bind s1 vals vl) vv due
  refine codeAny_mono run fun r s' x => ?_
  cases r with
  | error e => exact (show False from x).elim
  | ok fl =>
    cases fl with
    | next => exact (show False from x).elim
    | brk => exact (show False from x).elim
    | cont => exact (show False from x).elim
    | ret u =>
      obtain ⟨v, H', os, bare, un, ok', rv, q⟩ := x
      have key : ∀ b o, b ∉ cs.map (·.2) → s1.heap.get? b = some o → s'.heap.get? b = some o := fun b o nb e => by
        rcases cases_ b with z | z | ⟨ob, u1, z⟩
        · exact un.keep b o e z List.not_mem_nil List.not_mem_nil
        · exact absurd z nb
        · obtain ⟨f1, _⟩ := ok b _ z
          obtain ⟨f2, _⟩ := ok' b _ (un.frzs b ob _ z)
          rw [e] at f1
          rw [← Option.some.inj f1] at f2
          exact f2
      have grown : ∀ p ∈ cs, ∃ more : Array Value, s'.heap.get? p.2 = some { cls := .none, data := .fields more } := fun p hp => by
        obtain ⟨more, z⟩ := un.tbls p.2 #[] (tabs p hp)
        exact ⟨_, ok' p.2 _ z⟩
      have hK' : K.In s'.heap := fun b o e => key b o (fun m => by
        obtain ⟨p, hp, q⟩ := List.mem_map.mp m
        rw [← q, nT p hp] at e
        cases e) (hK b o e)
      obtain ⟨as, rd⟩ := Dw.reads (R := R) (cl := cl) ok' hK' d0 v u q rv
      refine ⟨u, as, rfl, rd, ⟨fun b o e => ?_, fun b o e => ?_⟩, os, bare⟩
      · by_cases m : b ∈ cs.map (·.2)
        · obtain ⟨p, hp, q⟩ := List.mem_map.mp m
          obtain ⟨more, hm⟩ := grown p hp
          subst q
          rw [hT p hp] at e
          cases e
          exact .inr (.inl ⟨((hC p hp).tab (hT p hp)).isCodeTable, rfl, #[], more, rfl, by rw [hm, Array.empty_append]⟩)
        · exact .inl (key b o m e)
      · by_cases m : b ∈ cs.map (·.2)
        · obtain ⟨p, hp, q⟩ := List.mem_map.mp m
          obtain ⟨more, hm⟩ := grown p hp
          exact ⟨_, by rw [← q]; exact hm⟩
        · exact ⟨o, key b o m e⟩
/-- the goal that a head leaves: F gives the written part, the tables, the promise -/
theorem walk_tabs {r : OpenSpec} {k : Nat} {q : Program} {loose : List Str} {XP : (Str → Option Value) → Heap → Prop} {YP : World → Heap → Prop} {d : DefRec} {ps : List Str} {sp : PySem.W.Frag → List (Addr × Addr) → Sp}
    (well : r.wellSaid = true) (dfl : d.params.defaults = []) (len : r.args.length = ps.length) (room : Room k callerA)
    (F : ∀ (w : World) (mg : Str → Option Value) (fa : Addr) (h : Heap), YP w h → h.Ns mainGlobals mg → mg d.name = some (.ref fa) →
      ∃ (K : PySem.W.Frag) (fd : FuncData) (cs : List (Addr × Addr)), K.In h ∧ (∀ p ∈ cs, h.get? p.2 = some emptyT) ∧ (∀ p ∈ cs, K.lookup p.2 = none) ∧ (∀ p ∈ cs, PySem.W.CodeHd h p.1 p.2) ∧ (∀ (s : Shared) (us : List Value), us.length = ps.length → BindsTo s fd ⟨us, []⟩ (ps.zip us)) ∧
        ∀ base : Heap, K.In base → base.Ns mainGlobals mg → (∀ p ∈ cs, TabB base mg p.1 p.2) → FnOk r.prog w K mg base CX0 k fa fd ps (sp K cs))
    (hsp : ∀ (K : PySem.W.Frag) (cs : List (Addr × Addr)) (H0 H : Hp) (xs : List V) (a : Codec.denoteAll r.args), Codec.withinAll r.args a = true → DwAll K H0 xs (Codec.encAll r.args a) → Same H0 H → (∀ p ∈ cs, H p.2 = some (.tbl #[])) →
      sp K cs xs H (fun v H' => Dw K H' v (r.ret.enc (Codec.app r.args r.f a))) fun _ _ _ => False) :
    PySem.W.WalkOS q loose XP YP r d [] (fun f vs => PySem.call f vs) := by
  intro w s0 s1 mg mb G Y fa o pm cd doc dV kV ho hd hcd hD hmg hg args vals as pre lay rd wl lo
  obtain ⟨a, e1, e2⟩ := PySem.W.os_pre_some pre
  obtain ⟨e3, within⟩ := Codec.encAll_of_decAll r.args args a e1
  subst e3
  obtain ⟨K, fd, cs, hK, hT, nT, hC, hb, hF⟩ := F w mg fa _ Y G.T.g hmg
  have run := call_tabs (R := []) (cl := classAt s0.heap) (d0 := r.ret.enc (Codec.app r.args r.f a)) hK G.T.g G.T.b G.T.builtins G.T.nolimit hg hT nT hC G.T.bmain wl (pl_encAll _ _) (layable_weight lay) room hF hb
    ((encAll_len r.args a).trans len) fun H0 H xs dw sm tb => hsp K cs H0 H xs a within dw sm tb
  refine PySem.W.enter_call (codeAny_mono run fun r' s' hq => ?_)
  obtain ⟨u, as', rfl, h1, h2, h3, h4⟩ := hq
  refine ⟨.inl ⟨u, _, as', rfl, fun _ => rfl, h1, (OpenSpec.post_iff well within _ _).mpr rfl, fun z => ?_⟩, h2, h3, h4⟩
  exact Bool.noConfusion (show false = true from z)
end L2

namespace Pl
open PySem PySem.Spec PyProof.Rows L2 LamX
theorem tabs_zip {H : Hp} {c : List (Addr × Addr)} {names : List PySem.Str} (h : ∀ p ∈ c, H p.2 = some (.tbl #[])) : Tabs (List.zipWith (fun p n => (p.2, n)) c names) H := by
  intro p hp
  have key : ∀ (c : List (Addr × Addr)) (names : List PySem.Str), p ∈ List.zipWith (fun p n => (p.2, n)) c names → ∃ q ∈ c, p.1 = q.2 := fun c => by
    induction c with
    | nil =>
      intro names hp
      cases hp
    | cons q c ih =>
      intro names hp
      cases names with
      | nil => cases hp
      | cons n names =>
        rw [List.zipWith_cons_cons] at hp
        rcases List.mem_cons.mp hp with rfl | hp
        · exact ⟨q, List.mem_cons_self, rfl⟩
        · obtain ⟨r, hr, e⟩ := ih names hp
          exact ⟨r, List.mem_cons_of_mem _ hr, e⟩
  obtain ⟨q, hq, e⟩ := key c names hp
  exact ⟨#[], by rw [e]; exact h q hq, by trivial, fun pos cv z => by cases z⟩
end Pl

/-! ### the top run in pieces, each from a written state to a written state -/
namespace Hd
open PySem PySem.W PySem.Calls PyProof.Rows HandSHeadRun
def sgF (st : SharedT → Thread → Option (SharedT × Thread)) (n0 : Nat) (ann : Option Value) : Nat → SharedT → Thread → Option (Flow × SharedT × Code)
  | 0, _, _ => none
  | n + 1, s, t => match endAt 1 t with
    | some f => some (f, s, t.code)
    | none => match stepOk n0 ann t with
      | false => none
      | true => match st s t with
        | some (s', t') => frS s' fun s' => sgF st n0 ann n s' t'
        | none => none
theorem sgF_ok {p : Program} {w : World} {n0 : Nat} {ann : Option Value} : ∀ {n : Nat} {s s' : SharedT} {t : Thread} {f : Flow} {c : Code}, sgF (stepT (denote treeTable) p w) n0 ann n s t = some (f, s', c) → ∃ q, segRun treeTable p w n0 ann 1 n s.abs t = some (f, s'.abs, c, q)
  | 0, _, _, _, _, _, h => by cases h
  | n + 1, s, s', t, f, c, h => by
    unfold sgF at h
    unfold segRun
    show ∃ q, (match endAt 1 t with
      | some f => some (f, s.abs, t.code, t.pos)
      | none => match stepOk n0 ann t with
        | false => none
        | true => match step (denote treeTable) p w s.abs t with
          | .go s' t' => segRun treeTable p w n0 ann 1 n s' t'
          | .halt _ _ => none) = _
    cases e1 : endAt 1 t with
    | some g =>
      rw [e1] at h
      cases h
      exact ⟨_, rfl⟩
    | none =>
      rw [e1] at h
      dsimp only at h ⊢
      cases e2 : stepOk n0 ann t with
      | false =>
        rw [e2] at h
        cases h
      | true =>
        rw [e2] at h
        dsimp only at h ⊢
        cases e3 : stepT (denote treeTable) p w s t with
        | none =>
          rw [e3] at h
          cases h
        | some r =>
          obtain ⟨s1, t1⟩ := r
          rw [e3] at h
          dsimp only at h
          rw [frS_eq] at h
          rw [stepT_spec e3]
          exact sgF_ok h
def tgF (st : SharedT → Thread → Option (SharedT × Thread)) (n0 : Nat) (ann : Option Value) : Nat → SharedT → Thread → Option (SharedT × Thread)
  | 0, s, t => some (s, t)
  | n + 1, s, t => match through t with
    | true => none
    | false => match stepOk n0 ann t with
      | false => none
      | true => match st s t with
        | some (s', t') => frS s' fun s' => tgF st n0 ann n s' t'
        | none => none
theorem tgF_ok {p : Program} {w : World} {n0 : Nat} {ann : Option Value} : ∀ {n : Nat} {s s' : SharedT} {t t' : Thread}, tgF (stepT (denote treeTable) p w) n0 ann n s t = some (s', t') → topGo treeTable p w n0 ann n s.abs t = some (s'.abs, t')
  | 0, _, _, _, _, h => by
    cases h
    rfl
  | n + 1, s, s', t, t', h => by
    unfold tgF at h
    unfold topGo
    show (match through t with
      | true => none
      | false => match stepOk n0 ann t with
        | false => none
        | true => match step (denote treeTable) p w s.abs t with
          | .go s' t' => topGo treeTable p w n0 ann n s' t'
          | .halt _ _ => none) = _
    cases e1 : through t with
    | true =>
      rw [e1] at h
      cases h
    | false =>
      rw [e1] at h
      dsimp only at h ⊢
      cases e2 : stepOk n0 ann t with
      | false =>
        rw [e2] at h
        cases h
      | true =>
        rw [e2] at h
        dsimp only at h ⊢
        cases e3 : stepT (denote treeTable) p w s t with
        | none =>
          rw [e3] at h
          cases h
        | some r =>
          obtain ⟨s1, t1⟩ := r
          rw [e3] at h
          dsimp only at h
          rw [frS_eq] at h
          rw [stepT_spec e3]
          exact tgF_ok h
theorem stepQ_is : stepT (denote treeTable) = stepQ (denQ tabQ) := by rw [stepQ_eq, denQ_eq, tabQ_eq]
/-- one piece of the top: the statements l, from S to S' -/
def PieceQ (p : Program) (n0 : Nat) (ann : Option Value) (env : Env) (c : Code) (n : Nat) (l : List Stmt) (S S' : Params → OsState → SharedT) (w : World) : Prop := ∀ (os : OsState) (pos q : Pos), sgF (stepQ (denQ tabQ) p w) n0 ann n (S w.params os) (piecesOf l env c pos [topFrame q]) = some (.next, S' w.params os, c)
theorem piece_go {p : Program} {w : World} {n0 : Nat} {ann : Option Value} {env : Env} {c : Code} {n N : Nat} {l rest : List Stmt} {S S' : Params → OsState → SharedT} {q : Pos} {r : Shared} {os : OsState} (h : PieceQ p n0 ann env c n l S S' w)
    (k : ∀ pos, topRun treeTable p w n0 ann N (S' w.params os).abs (restOf rest env c pos [topFrame q]) = some r) (pos : Pos) : topRun treeTable p w n0 ann (n + N) (S w.params os).abs (restOf (l ++ rest) env c pos [topFrame q]) = some r := by
  have h1 := h os pos q
  rw [← stepQ_is] at h1
  obtain ⟨p', h2⟩ := sgF_ok h1
  exact piece_app h2 (k p')
theorem block_go {p : Program} {w : World} {n0 : Nat} {ann : Option Value} {env : Env} {c : Code} {n N : Nat} {b : List Stmt} {S : Params → OsState → SharedT} {q pos : Pos} {r : Shared} {os : OsState} (h : sgF (stepQ (denQ tabQ) p w) n0 ann n (S w.params os) (blockOf b env c pos [topFrame q]) = some (.next, S w.params os, c))
    (k : ∀ pos, topRun treeTable p w n0 ann N (S w.params os).abs (restOf b env c pos [topFrame q]) = some r) : topRun treeTable p w n0 ann (n + N) (S w.params os).abs ⟨denote treeTable (.body b env), c, pos, [topFrame q]⟩ = some r := by
  rw [← stepQ_is] at h
  obtain ⟨p', h2⟩ := sgF_ok h
  exact piece_block h2 (k p')
/-- the row holds where the top's run is told -/
theorem head_run {r : OpenSpec} {q : Program} {H : Hook} {loose : List Str} {d : DefRec} {kwd : List (Str × Expr)} {N M m0 : Nat} {ann : Option Value} {H1 : Params → Heap} {k1 : Nat} (e : opening r.prog = plainProg r.prog.main.scope.names) (hN : Nat.ble 600 N = true) (f : ∀ s : Shared, fenceModules? r.prog s = some s)
    (size : ∀ w : World, ((boot_heap w.params).objs.size, (boot_heap w.params).nsMap mainGlobals "__annotations__") = (m0, ann))
    (run : ∀ (w : World) (os : OsState), topRun treeTable r.prog w m0 ann M ⟨boot_heap w.params, #[], boot_drawn, boot_toks, os⟩ (topStub r.prog) = some ⟨H1 w.params, #[], boot_drawn, k1, os⟩)
    (hM : M.ble N = true)
    (looks : ∀ (w : World) (os : OsState), looksF r.prog (boot_heap w.params) ⟨H1 w.params, #[], boot_drawn, k1, os⟩ = true)
    (seen : ∀ (w : World) (os : OsState), seenQ q loose (importedModules r.prog.main.body) (fun s => xlAt q [] s && recOk [] s) ⟨H1 w.params, #[], boot_drawn, k1, os⟩ = openGood q loose)
    (obs : ∀ (w : World) (os : OsState), H.obs ⟨H1 w.params, #[], boot_drawn, k1, os⟩ = H.val w)
    (hdef : defOf q r.name = some (d, kwd)) (hp : r.prog.theDef r.name = some (d.params, d.body, d.scope)) (hk : kwWritten? d.params.kwonlyargs d.params.kw_defaults = some kwd)
    (hsh : ∀ as : List WData, r.pre as = true → WShape.hasAll [] as (r.args.map Codec.shape) = true) (wl : r.wellSaid = true) (ok : (chainsOk q && opensWell r.prog) = true) (hb : r.prog.bare) (hw : ∃ args, r.pre args = true ∧ WData.layableAll args = true)
    (call : WalkOS q loose (XL q []) H.says r d kwd fun f vs => PySem.call f vs) : r.Holds := by
  have left : LeftO r.prog q loose (fun s => xlAt q [] s && recOk [] s) H.obs H.val N := by
    refine LeftO.of_pieces (H₀ := boot_heap) (H₁ := H1) (gs₀ := #[]) (gs₁ := #[]) (d₀ := boot_drawn) (d₁ := boot_drawn) (k₀ := boot_toks) (k₁ := k1) (m₀ := m0) (ann := ann) (M := M) (boot_open e hN f) (fun w => ?_) run hM fun w => ?_
    · have z := size w
      rw [Prod.mk.injEq] at z ⊢
      refine ⟨?_, ?_⟩
      · rw [boot_ns]
        rfl
      · rw [Prod.mk.injEq]
        exact z
    · funext os
      rw [seenQ_eq, obs w os, seen w os]
      have l := looks w os
      unfold looksF at l
      exact congrArg (fun b => (b, openGood q loose, H.val w)) l
  exact holds_os left H.of H.keeps (fun s z => xl_of s (Bool.and_eq_true_iff.mp z).1) XL.keeps hdef hp hk (fun s z => recFacts_of (Bool.and_eq_true_iff.mp z).2) hsh wl ok hb hw call
/-- an object that is gone -/
def fr : Obj → Bool
  | ⟨_, _, .freed, _⟩ => true
  | _ => false
theorem get_abs {t : BT} {n : Nat} {life : Life} {a : Nat} {o : Obj} (h1 : Nat.blt a n = true) (h2 : t.get a = some o) (h3 : fr o = false) : (absHeap t n life).get? a = some o := by
  have e : (absHeap t n life).objs[a]? = some o := by
    rw [absHeap_at, if_pos (Nat.blt_eq.mp h1), h2]
    rfl
  unfold Heap.get?
  rw [e]
  obtain ⟨c, d, dt, sl⟩ := o
  cases dt <;> first | rfl | cases h3
theorem obs_is {K : Params → Frag} {as : List Addr} {e : ∀ P, as = (K P).map (fun x => x.1)} {t : Params → BT} {n k : Nat} {w : World} {os : OsState} (h : (K w.params).map (fun p => (Nat.blt p.1 n, (t w.params).get p.1, fr p.2)) = (K w.params).map (fun p => (true, some p.2, false))) :
    (kHook K as e).obs ⟨absHeap (t w.params) n {}, #[], boot_drawn, k, os⟩ = (kHook K as e).val w := by
  show as.map (absHeap (t w.params) n {}).get? = (K w.params).map fun p => some p.2
  rw [e w.params, List.map_map]
  refine List.map_congr_left fun p hp => ?_
  have q := List.map_inj_left.mp h p hp
  obtain ⟨c1, c2⟩ := Prod.mk.inj q
  obtain ⟨c2, c3⟩ := Prod.mk.inj c2
  exact get_abs c1 c2 c3
/-- a text-keyed entry of a written dict -/
def kE (P : Params) (x : Str) (t : Tok) (v : Value) : DictEntry := ⟨PyData.keyHash P x, .str x t, v⟩
def nd (o : Obj) (l r : BT) : BT := .node o l r
end Hd

namespace Hd
noncomputable section
open PySem PySem.W PySem.Calls PyProof.Rows HandSHeadRun PySem.Spec L2
abbrev R : OpenSpec := PySem.Challenge.rw_plainlayout_s03_cost
abbrev pw : Program := PySem.Challenge.pw_plainlayout_s03_cost
abbrev qv : Program := view R.prog [66]
abbrev topS := Pl.topS
def names0 : List PySem.Str := ["TAB", "LINE_FEED", "CARRIAGE_RETURN", "BLANK", "HYPHEN", "POINT", "DIGIT_0", "DIGIT_9", "CAPITAL_A", "CAPITAL_Z", "SMALL_A", "SMALL_Z", "GREATEST_CHARACTER", "FIRST_SURROGATE", "LAST_SURROGATE", "is_character", "is_white_space", "is_digit", "is_capital_letter", "is_small_letter", "is_letter", "to_small_letter", "words_of", "best_division", "filling_cost", "Refusal", "NotPatterns", "OutOfRange", "NotUtf8", "NotFitting"]
def names1 : List PySem.Str := ["LEAST_LETTERS", "Pattern", "patterns_of", "pattern_of", "positions_of", "levels_in", "SPACE_JOINT", "PLAIN_JOINT", "HYPHEN_JOINT", "HYPHEN_COST", "EXCESS_COST", "Piece", "pieces_of", "pieces_of_word", "parts_of", "pieces_of_part", "line_text", "allowed_lengths", "line_cost", "allowed_costs", "best_counts", "division_cost", "SMALLEST", "LEADS", "read_utf8", "sequence_size", "read_sequence", "LEAST_WIDTH", "GREATEST_WIDTH", "checked_pieces"]
def names2 : List PySem.Str := ["check_width"]
def names : List PySem.Str := names0 ++ (names1 ++ (names2))
def o11 : Obj := ⟨(.type "tuple"), none, (.seq #[] 0), #[]⟩
def o12 : Obj := ⟨.none, none, (.fields #[]), #[]⟩
def o13 : Obj := ⟨(.type "code"), none, (.fields #[(.str "<module>" 182), (.str "<module>" 183), (.str "/claim/cut.py" 184), (.int (1) 0), (.int (0) 0), (.int (0) 0), (.int (0) 0), (.int (0) 0), (.ref 11), (.bool false), (.int (181) 0), (.ref 12), .none, .none, .none, .none, (.int (185) 0), (.int (1) 0), (.str "/claim/cut.py" 186)]), #[]⟩
def o14 : Obj := ⟨(.type "frame"), none, .plain, #[(some (.ref 13)), (some (.ref 3)), (some (.ref 3)), none, (some (.str "__main__" 164)), none, (some (.ref 0))]⟩
def t0 (P : Params) : BT := (nd (boot_o_0 P) (nd (boot_o_1 P) (nd (boot_o_3 P) (nd (boot_o_7 P) .nil .nil) (nd o11 .nil .nil)) (nd (boot_o_5 P) (nd (boot_o_9 P) .nil .nil) (nd o13 .nil .nil))) (nd (boot_o_2 P) (nd (boot_o_4 P) (nd (boot_o_8 P) .nil .nil) (nd o12 .nil .nil)) (nd (boot_o_6 P) (nd (boot_o_10 P) .nil .nil) (nd o14 .nil .nil))))
def o2 (P : Params) : Obj := ⟨.none, none, (.dict #[kE P "type.__subclasses__.Exception.0" 333 (.int (101) 0), kE P "type.__subclasses__.Exception.n" 334 (.int (1) 0)] 2), #[]⟩
def e0 (P : Params) : List DictEntry := [kE P "__name__" 165 (.str "plainlayout.typesetting" 697), kE P "__doc__" 166 .none, kE P "__package__" 167 .none, kE P "__loader__" 168 (.builtin "__main__.__loader__#opaque"), kE P "__spec__" 169 .none, kE P "__annotations__" 170 (.ref 6), kE P "__builtins__" 171 (.ref 4), kE P "__file__" 173 (.str "/claim/cut.py" 172), kE P "__cached__" 174 .none, kE P "TAB" 190 (.int (9) 189), kE P "LINE_FEED" 192 (.int (10) 191), kE P "CARRIAGE_RETURN" 194 (.int (13) 193), kE P "BLANK" 196 (.int (32) 195), kE P "HYPHEN" 198 (.int (45) 197), kE P "POINT" 200 (.int (46) 199), kE P "DIGIT_0" 202 (.int (48) 201), kE P "DIGIT_9" 204 (.int (57) 203), kE P "CAPITAL_A" 206 (.int (65) 205), kE P "CAPITAL_Z" 208 (.int (90) 207), kE P "SMALL_A" 210 (.int (97) 209), kE P "SMALL_Z" 212 (.int (122) 211), kE P "GREATEST_CHARACTER" 214 (.int (1114111) 213), kE P "FIRST_SURROGATE" 216 (.int (55296) 215), kE P "LAST_SURROGATE" 218 (.int (57343) 217), kE P "is_character" 225 (.ref 21), kE P "is_white_space" 232 (.ref 28), kE P "is_digit" 239 (.ref 35), kE P "is_capital_letter" 246 (.ref 42), kE P "is_small_letter" 253 (.ref 49), kE P "is_letter" 260 (.ref 56), kE P "to_small_letter" 267 (.ref 63), kE P "words_of" 277 (.ref 70), kE P "best_division" 295 (.ref 77), kE P "filling_cost" 305 (.ref 84), kE P "Refusal" 336 (.ref 101), kE P "NotPatterns" 359 (.ref 121), kE P "OutOfRange" 382 (.ref 140), kE P "NotUtf8" 405 (.ref 159), kE P "NotFitting" 428 (.ref 178), kE P "LEAST_LETTERS" 432 (.int (2) 431)]
def e1 (P : Params) : List DictEntry := [kE P "Pattern" 463 (.ref 197), kE P "patterns_of" 469 (.ref 206), kE P "pattern_of" 480 (.ref 213), kE P "positions_of" 486 (.ref 218), kE P "levels_in" 499 (.ref 225), kE P "SPACE_JOINT" 503 (.str "space" 502), kE P "PLAIN_JOINT" 505 (.str "plain" 504), kE P "HYPHEN_JOINT" 507 (.str "hyphen" 506), kE P "HYPHEN_COST" 509 (.int (50) 508), kE P "EXCESS_COST" 511 (.int (10000) 510), kE P "Piece" 542 (.ref 242), kE P "pieces_of" 552 (.ref 253), kE P "pieces_of_word" 563 (.ref 260), kE P "parts_of" 573 (.ref 267), kE P "pieces_of_part" 585 (.ref 274), kE P "line_text" 595 (.ref 281), kE P "allowed_lengths" 608 (.ref 288), kE P "line_cost" 619 (.ref 295), kE P "allowed_costs" 631 (.ref 302), kE P "best_counts" 641 (.ref 309), kE P "division_cost" 655 (.ref 316), kE P "SMALLEST" 663 (.ref 317), kE P "LEADS" 669 (.ref 318), kE P "read_utf8" 679 (.ref 325), kE P "sequence_size" 686 (.ref 332), kE P "read_sequence" 696 (.ref 339), kE P "LEAST_WIDTH" 700 (.int (10) 699), kE P "GREATEST_WIDTH" 702 (.int (80) 701), kE P "cost" 714 (.ref 346), kE P "checked_pieces" 724 (.ref 353), kE P "check_width" 731 (.ref 360)]
def o3 (P : Params) : Obj := ⟨(.type "dict"), none, (.dict ⟨e0 P ++ (e1 P)⟩ 71), #[]⟩
def o12_1 : Obj := ⟨.none, none, (.fields #[(.int (17) 0), (.int (0) 0), (.ref 20), (.int (19) 0), (.int (0) 0), (.ref 27), (.int (21) 0), (.int (0) 0), (.ref 34), (.int (23) 0), (.int (0) 0), (.ref 41), (.int (25) 0), (.int (0) 0), (.ref 48), (.int (27) 0), (.int (0) 0), (.ref 55), (.int (29) 0), (.int (0) 0), (.ref 62), (.int (33) 0), (.int (0) 0), (.ref 69), (.int (46) 0), (.int (0) 0), (.ref 76), (.int (61) 0), (.int (0) 0), (.ref 83), (.int (68) 0), (.int (0) 0), (.ref 90), (.int (72) 0), (.int (0) 0), (.ref 110), (.int (76) 0), (.int (0) 0), (.ref 129), (.int (80) 0), (.int (0) 0), (.ref 148), (.int (84) 0), (.int (0) 0), (.ref 167), (.int (90) 0), (.int (0) 0), (.ref 186), (.int (95) 0), (.int (0) 0), (.ref 205), (.int (97) 0), (.int (0) 0), (.ref 212), (.int (116) 0), (.int (0) 0), (.ref 217), (.int (121) 0), (.int (0) 0), (.ref 224), (.int (136) 0), (.int (0) 0), (.ref 231), (.int (141) 0), (.int (0) 0), (.ref 252), (.int (146) 0), (.int (0) 0), (.ref 259), (.int (153) 0), (.int (0) 0), (.ref 266), (.int (162) 0), (.int (0) 0), (.ref 273), (.int (170) 0), (.int (0) 0), (.ref 280), (.int (181) 0), (.int (0) 0), (.ref 287), (.int (193) 0), (.int (0) 0), (.ref 294), (.int (198) 0), (.int (0) 0), (.ref 301), (.int (203) 0), (.int (0) 0), (.ref 308), (.int (205) 0), (.int (0) 0), (.ref 315), (.int (223) 0), (.int (0) 0), (.ref 324), (.int (231) 0), (.int (0) 0), (.ref 331), (.int (241) 0), (.int (0) 0), (.ref 338), (.int (255) 0), (.int (0) 0), (.ref 345), (.int (262) 0), (.int (0) 0), (.ref 352), (.int (266) 0), (.int (0) 0), (.ref 359)]), #[]⟩
def o15 : Obj := ⟨(.type "tuple"), none, (.seq #[] 0), #[]⟩
def o16 : Obj := ⟨.none, none, (.fields #[]), #[]⟩
def o17 : Obj := ⟨(.type "tuple"), none, (.seq #[(.str "code" 222)] 0), #[]⟩
def o18 : Obj := ⟨(.type "tuple"), none, (.seq #[] 0), #[]⟩
def o19 : Obj := ⟨.none, none, (.func ⟨"is_character", "is_character", defArgs (topS 16), (.stmts (defBody (topS 16))), defScope (topS 16), 0, [], .none, .none, .none, .none, none, .none, .none, 0⟩), #[]⟩
def o20 : Obj := ⟨(.type "code"), none, (.fields #[(.str "is_character" 219), (.str "is_character" 220), (.str "/claim/cut.py" 221), (.int (17) 0), (.int (1) 0), (.int (0) 0), (.int (0) 0), (.int (3) 0), (.ref 15), (.bool true), (.int (181) 0), (.ref 16), .none, (.ref 17), (.ref 18), (.ref 19), (.int (223) 0), (.int (17) 0), (.str "/claim/cut.py" 224)]), #[]⟩
def o21 : Obj := ⟨(.type "function"), none, (.func (PySem.W.fnOf "is_character" "is_character" (defArgs (topS 16)) (defBody (topS 16)) (defScope (topS 16)) .none .none .none (.str "plainlayout.characters" 187) none (.ref 20) .none)), #[]⟩
def o22 : Obj := ⟨(.type "tuple"), none, (.seq #[] 0), #[]⟩
def o23 : Obj := ⟨.none, none, (.fields #[]), #[]⟩
def o24 : Obj := ⟨(.type "tuple"), none, (.seq #[(.str "code" 229)] 0), #[]⟩
def o25 : Obj := ⟨(.type "tuple"), none, (.seq #[] 0), #[]⟩
def o26 : Obj := ⟨.none, none, (.func ⟨"is_white_space", "is_white_space", defArgs (topS 17), (.stmts (defBody (topS 17))), defScope (topS 17), 0, [], .none, .none, .none, .none, none, .none, .none, 0⟩), #[]⟩
def o27 : Obj := ⟨(.type "code"), none, (.fields #[(.str "is_white_space" 226), (.str "is_white_space" 227), (.str "/claim/cut.py" 228), (.int (19) 0), (.int (1) 0), (.int (0) 0), (.int (0) 0), (.int (3) 0), (.ref 22), (.bool true), (.int (181) 0), (.ref 23), .none, (.ref 24), (.ref 25), (.ref 26), (.int (230) 0), (.int (19) 0), (.str "/claim/cut.py" 231)]), #[]⟩
def o28 : Obj := ⟨(.type "function"), none, (.func (PySem.W.fnOf "is_white_space" "is_white_space" (defArgs (topS 17)) (defBody (topS 17)) (defScope (topS 17)) .none .none .none (.str "plainlayout.characters" 187) none (.ref 27) .none)), #[]⟩
def o29 : Obj := ⟨(.type "tuple"), none, (.seq #[] 0), #[]⟩
def o30 : Obj := ⟨.none, none, (.fields #[]), #[]⟩
def o31 : Obj := ⟨(.type "tuple"), none, (.seq #[(.str "code" 236)] 0), #[]⟩
def o32 : Obj := ⟨(.type "tuple"), none, (.seq #[] 0), #[]⟩
def o33 : Obj := ⟨.none, none, (.func ⟨"is_digit", "is_digit", defArgs (topS 18), (.stmts (defBody (topS 18))), defScope (topS 18), 0, [], .none, .none, .none, .none, none, .none, .none, 0⟩), #[]⟩
def o34 : Obj := ⟨(.type "code"), none, (.fields #[(.str "is_digit" 233), (.str "is_digit" 234), (.str "/claim/cut.py" 235), (.int (21) 0), (.int (1) 0), (.int (0) 0), (.int (0) 0), (.int (3) 0), (.ref 29), (.bool true), (.int (181) 0), (.ref 30), .none, (.ref 31), (.ref 32), (.ref 33), (.int (237) 0), (.int (21) 0), (.str "/claim/cut.py" 238)]), #[]⟩
def o35 : Obj := ⟨(.type "function"), none, (.func (PySem.W.fnOf "is_digit" "is_digit" (defArgs (topS 18)) (defBody (topS 18)) (defScope (topS 18)) .none .none .none (.str "plainlayout.characters" 187) none (.ref 34) .none)), #[]⟩
def o36 : Obj := ⟨(.type "tuple"), none, (.seq #[] 0), #[]⟩
def o37 : Obj := ⟨.none, none, (.fields #[]), #[]⟩
def o38 : Obj := ⟨(.type "tuple"), none, (.seq #[(.str "code" 243)] 0), #[]⟩
def o39 : Obj := ⟨(.type "tuple"), none, (.seq #[] 0), #[]⟩
def o40 : Obj := ⟨.none, none, (.func ⟨"is_capital_letter", "is_capital_letter", defArgs (topS 19), (.stmts (defBody (topS 19))), defScope (topS 19), 0, [], .none, .none, .none, .none, none, .none, .none, 0⟩), #[]⟩
def o41 : Obj := ⟨(.type "code"), none, (.fields #[(.str "is_capital_letter" 240), (.str "is_capital_letter" 241), (.str "/claim/cut.py" 242), (.int (23) 0), (.int (1) 0), (.int (0) 0), (.int (0) 0), (.int (3) 0), (.ref 36), (.bool true), (.int (181) 0), (.ref 37), .none, (.ref 38), (.ref 39), (.ref 40), (.int (244) 0), (.int (23) 0), (.str "/claim/cut.py" 245)]), #[]⟩
def o42 : Obj := ⟨(.type "function"), none, (.func (PySem.W.fnOf "is_capital_letter" "is_capital_letter" (defArgs (topS 19)) (defBody (topS 19)) (defScope (topS 19)) .none .none .none (.str "plainlayout.characters" 187) none (.ref 41) .none)), #[]⟩
def o43 : Obj := ⟨(.type "tuple"), none, (.seq #[] 0), #[]⟩
def o44 : Obj := ⟨.none, none, (.fields #[]), #[]⟩
def o45 : Obj := ⟨(.type "tuple"), none, (.seq #[(.str "code" 250)] 0), #[]⟩
def o46 : Obj := ⟨(.type "tuple"), none, (.seq #[] 0), #[]⟩
def o47 : Obj := ⟨.none, none, (.func ⟨"is_small_letter", "is_small_letter", defArgs (topS 20), (.stmts (defBody (topS 20))), defScope (topS 20), 0, [], .none, .none, .none, .none, none, .none, .none, 0⟩), #[]⟩
def o48 : Obj := ⟨(.type "code"), none, (.fields #[(.str "is_small_letter" 247), (.str "is_small_letter" 248), (.str "/claim/cut.py" 249), (.int (25) 0), (.int (1) 0), (.int (0) 0), (.int (0) 0), (.int (3) 0), (.ref 43), (.bool true), (.int (181) 0), (.ref 44), .none, (.ref 45), (.ref 46), (.ref 47), (.int (251) 0), (.int (25) 0), (.str "/claim/cut.py" 252)]), #[]⟩
def o49 : Obj := ⟨(.type "function"), none, (.func (PySem.W.fnOf "is_small_letter" "is_small_letter" (defArgs (topS 20)) (defBody (topS 20)) (defScope (topS 20)) .none .none .none (.str "plainlayout.characters" 187) none (.ref 48) .none)), #[]⟩
def o50 : Obj := ⟨(.type "tuple"), none, (.seq #[] 0), #[]⟩
def o51 : Obj := ⟨.none, none, (.fields #[]), #[]⟩
def o52 : Obj := ⟨(.type "tuple"), none, (.seq #[(.str "code" 257)] 0), #[]⟩
def o53 : Obj := ⟨(.type "tuple"), none, (.seq #[] 0), #[]⟩
def o54 : Obj := ⟨.none, none, (.func ⟨"is_letter", "is_letter", defArgs (topS 21), (.stmts (defBody (topS 21))), defScope (topS 21), 0, [], .none, .none, .none, .none, none, .none, .none, 0⟩), #[]⟩
def o55 : Obj := ⟨(.type "code"), none, (.fields #[(.str "is_letter" 254), (.str "is_letter" 255), (.str "/claim/cut.py" 256), (.int (27) 0), (.int (1) 0), (.int (0) 0), (.int (0) 0), (.int (3) 0), (.ref 50), (.bool true), (.int (181) 0), (.ref 51), .none, (.ref 52), (.ref 53), (.ref 54), (.int (258) 0), (.int (27) 0), (.str "/claim/cut.py" 259)]), #[]⟩
def o56 : Obj := ⟨(.type "function"), none, (.func (PySem.W.fnOf "is_letter" "is_letter" (defArgs (topS 21)) (defBody (topS 21)) (defScope (topS 21)) .none .none .none (.str "plainlayout.characters" 187) none (.ref 55) .none)), #[]⟩
def o57 : Obj := ⟨(.type "tuple"), none, (.seq #[] 0), #[]⟩
def o58 : Obj := ⟨.none, none, (.fields #[]), #[]⟩
def o59 : Obj := ⟨(.type "tuple"), none, (.seq #[(.str "letter" 264)] 0), #[]⟩
def o60 : Obj := ⟨(.type "tuple"), none, (.seq #[] 0), #[]⟩
def o61 : Obj := ⟨.none, none, (.func ⟨"to_small_letter", "to_small_letter", defArgs (topS 22), (.stmts (defBody (topS 22))), defScope (topS 22), 0, [], .none, .none, .none, .none, none, .none, .none, 0⟩), #[]⟩
def o62 : Obj := ⟨(.type "code"), none, (.fields #[(.str "to_small_letter" 261), (.str "to_small_letter" 262), (.str "/claim/cut.py" 263), (.int (29) 0), (.int (1) 0), (.int (0) 0), (.int (0) 0), (.int (3) 0), (.ref 57), (.bool true), (.int (181) 0), (.ref 58), .none, (.ref 59), (.ref 60), (.ref 61), (.int (265) 0), (.int (29) 0), (.str "/claim/cut.py" 266)]), #[]⟩
def o63 : Obj := ⟨(.type "function"), none, (.func (PySem.W.fnOf "to_small_letter" "to_small_letter" (defArgs (topS 22)) (defBody (topS 22)) (defScope (topS 22)) .none .none .none (.str "plainlayout.characters" 187) none (.ref 62) .none)), #[]⟩
def o64 : Obj := ⟨(.type "tuple"), none, (.seq #[] 0), #[]⟩
def o65 : Obj := ⟨.none, none, (.fields #[]), #[]⟩
def o66 : Obj := ⟨(.type "tuple"), none, (.seq #[(.str "text" 271), (.str "words" 272), (.str "word" 273), (.str "code" 274)] 0), #[]⟩
def o67 : Obj := ⟨(.type "tuple"), none, (.seq #[] 0), #[]⟩
def o68 : Obj := ⟨.none, none, (.func ⟨"words_of", "words_of", defArgs (topS 23), (.stmts (defBody (topS 23))), defScope (topS 23), 0, [], .none, .none, .none, .none, none, .none, .none, 0⟩), #[]⟩
def o69 : Obj := ⟨(.type "code"), none, (.fields #[(.str "words_of" 268), (.str "words_of" 269), (.str "/claim/cut.py" 270), (.int (33) 0), (.int (1) 0), (.int (0) 0), (.int (0) 0), (.int (3) 0), (.ref 64), (.bool true), (.int (181) 0), (.ref 65), .none, (.ref 66), (.ref 67), (.ref 68), (.int (275) 0), (.int (33) 0), (.str "/claim/cut.py" 276)]), #[]⟩
def o70 : Obj := ⟨(.type "function"), none, (.func (PySem.W.fnOf "words_of" "words_of" (defArgs (topS 23)) (defBody (topS 23)) (defScope (topS 23)) .none .none .none (.str "plainlayout.characters" 187) none (.ref 69) .none)), #[]⟩
def o71 : Obj := ⟨(.type "tuple"), none, (.seq #[] 0), #[]⟩
def o72 : Obj := ⟨.none, none, (.fields #[]), #[]⟩
def o73 : Obj := ⟨(.type "tuple"), none, (.seq #[(.str "size" 283), (.str "costs_from" 284), (.str "costs" 285), (.str "firsts" 286), (.str "start" 287), (.str "count" 288), (.str "own" 289), (.str "total" 290), (.str "counts" 291), (.str "at" 292)] 0), #[]⟩
def o74 : Obj := ⟨(.type "tuple"), none, (.seq #[] 0), #[]⟩
def o75 : Obj := ⟨.none, none, (.func ⟨"best_division", "best_division", defArgs (topS 25), (.stmts (defBody (topS 25))), defScope (topS 25), 0, [], .none, .none, .none, .none, none, .none, .none, 0⟩), #[]⟩
def o76 : Obj := ⟨(.type "code"), none, (.fields #[(.str "best_division" 280), (.str "best_division" 281), (.str "/claim/cut.py" 282), (.int (46) 0), (.int (2) 0), (.int (0) 0), (.int (0) 0), (.int (3) 0), (.ref 71), (.bool true), (.int (181) 0), (.ref 72), .none, (.ref 73), (.ref 74), (.ref 75), (.int (293) 0), (.int (46) 0), (.str "/claim/cut.py" 294)]), #[]⟩
def o77 : Obj := ⟨(.type "function"), none, (.func (PySem.W.fnOf "best_division" "best_division" (defArgs (topS 25)) (defBody (topS 25)) (defScope (topS 25)) .none .none .none (.str "plainlayout.division" 278) none (.ref 76) .none)), #[]⟩
def o78 : Obj := ⟨(.type "tuple"), none, (.seq #[] 0), #[]⟩
def o79 : Obj := ⟨.none, none, (.fields #[]), #[]⟩
def o80 : Obj := ⟨(.type "tuple"), none, (.seq #[(.str "room" 299), (.str "size" 300), (.str "is_last" 301), (.str "excess_cost" 302)] 0), #[]⟩
def o81 : Obj := ⟨(.type "tuple"), none, (.seq #[] 0), #[]⟩
def o82 : Obj := ⟨.none, none, (.func ⟨"filling_cost", "filling_cost", defArgs (topS 26), (.stmts (defBody (topS 26))), defScope (topS 26), 0, [], .none, .none, .none, .none, none, .none, .none, 0⟩), #[]⟩
def o83 : Obj := ⟨(.type "code"), none, (.fields #[(.str "filling_cost" 296), (.str "filling_cost" 297), (.str "/claim/cut.py" 298), (.int (61) 0), (.int (4) 0), (.int (0) 0), (.int (0) 0), (.int (3) 0), (.ref 78), (.bool true), (.int (181) 0), (.ref 79), .none, (.ref 80), (.ref 81), (.ref 82), (.int (303) 0), (.int (61) 0), (.str "/claim/cut.py" 304)]), #[]⟩
def o84 : Obj := ⟨(.type "function"), none, (.func (PySem.W.fnOf "filling_cost" "filling_cost" (defArgs (topS 26)) (defBody (topS 26)) (defScope (topS 26)) .none .none .none (.str "plainlayout.division" 278) none (.ref 83) .none)), #[]⟩
def o85 : Obj := ⟨(.type "tuple"), none, (.seq #[(.type "Exception")] 0), #[]⟩
def o86 : Obj := ⟨(.type "builtin_function_or_method"), none, (.fields #[(.builtin "type.__prepare__"), (.type "type")]), #[]⟩
def o87 (P : Params) : Obj := ⟨(.type "dict"), none, (.dict #[kE P "__module__" 315 (.str "plainlayout.refusals" 306), kE P "__qualname__" 317 (.str "Refusal" 316), kE P "__firstlineno__" 319 (.int (68) 318), kE P "__init__" 327 (.ref 98), kE P "__static_attributes__" 329 (.ref 99)] 5), #[]⟩
def o88 : Obj := ⟨(.type "tuple"), none, (.seq #[] 0), #[]⟩
def o89 : Obj := ⟨.none, none, (.fields #[(.int (70) 0), (.int (4) 0), (.ref 97)]), #[]⟩
def o90 : Obj := ⟨(.type "code"), none, (.fields #[(.str "Refusal" 310), (.str "Refusal" 311), (.str "/claim/cut.py" 312), (.int (68) 0), (.int (0) 0), (.int (0) 0), (.int (0) 0), (.int (0) 0), (.ref 88), (.bool false), (.int (181) 0), (.ref 89), .none, .none, .none, .none, (.int (313) 0), (.int (68) 0), (.str "/claim/cut.py" 314)]), #[]⟩
def o91 : Obj := ⟨(.type "frame"), none, .plain, #[(some (.ref 90)), (some (.ref 3)), (some (.ref 87)), none, (some (.str "plainlayout.refusals" 306)), none, (some (.ref 0))]⟩
def o92 : Obj := ⟨(.type "tuple"), none, (.seq #[] 0), #[]⟩
def o93 : Obj := ⟨.none, none, (.fields #[]), #[]⟩
def o94 : Obj := ⟨(.type "tuple"), none, (.seq #[(.str "self" 323), (.str "answer" 324)] 0), #[]⟩
def o95 : Obj := ⟨(.type "tuple"), none, (.seq #[] 0), #[]⟩
def o96 : Obj := ⟨.none, none, (.func ⟨"__init__", "Refusal.__init__", defArgs (inClass (topS 28) 0), (.stmts (defBody (inClass (topS 28) 0))), defScope (inClass (topS 28) 0), 0, [], .none, .none, .none, .none, none, .none, .none, 0⟩), #[]⟩
def o97 : Obj := ⟨(.type "code"), none, (.fields #[(.str "__init__" 320), (.str "Refusal.__init__" 321), (.str "/claim/cut.py" 322), (.int (70) 0), (.int (2) 0), (.int (0) 0), (.int (0) 0), (.int (3) 0), (.ref 92), (.bool true), (.int (181) 0), (.ref 93), .none, (.ref 94), (.ref 95), (.ref 96), (.int (325) 0), (.int (70) 0), (.str "/claim/cut.py" 326)]), #[]⟩
def o98 : Obj := ⟨(.type "function"), none, (.func (PySem.W.fnOf "__init__" "Refusal.__init__" (defArgs (inClass (topS 28) 0)) (defBody (inClass (topS 28) 0)) (defScope (inClass (topS 28) 0)) .none .none .none (.str "plainlayout.refusals" 306) none (.ref 97) .none)), #[]⟩
def o99 : Obj := ⟨(.type "tuple"), none, (.seq #[(.str "answer" 328)] 0), #[]⟩
def o100 (P : Params) : Obj := ⟨(.type "dict"), none, (.dict #[kE P "__module__" 315 (.str "plainlayout.refusals" 306), kE P "__firstlineno__" 319 (.int (68) 318), kE P "__init__" 327 (.ref 98), kE P "__static_attributes__" 329 (.ref 99), kE P "__weakref__" 331 (.ref 102), kE P "__doc__" 332 .none] 3), #[]⟩
def o101 : Obj := ⟨(.type "type"), none, (.cls ⟨"Refusal", [(.type "Exception")], [(.ref 101), (.type "Exception"), (.type "BaseException"), (.type "object")], 100, "Refusal", true, [], [(.ref 121), (.ref 140), (.ref 159), (.ref 178)], false, none, false⟩), #[(some (.ref 85)), none, (some (.str "Refusal" 308)), (some (.str "Refusal" 316)), (some (.builtin "Exception.__new__")), (some (.bool true))]⟩
def o102 : Obj := ⟨(.type "getset_descriptor"), none, (.fields #[(.str "__weakref__" 330), (.ref 101), (.builtin "ExceptionGroup.__weakref__"), .none]), #[]⟩
def o103 : Obj := ⟨(.type "super"), none, (.fields #[(.ref 101), (.ref 101), (.ref 101)]), #[]⟩
def o104 : Obj := ⟨(.type "builtin_function_or_method"), none, (.fields #[(.builtin "object.__init_subclass__"), (.ref 101)]), #[]⟩
def o105 : Obj := ⟨(.type "tuple"), none, (.seq #[(.ref 101)] 0), #[]⟩
def o106 : Obj := ⟨(.type "builtin_function_or_method"), none, (.fields #[(.builtin "type.__prepare__"), (.type "type")]), #[]⟩
def o107 (P : Params) : Obj := ⟨(.type "dict"), none, (.dict #[kE P "__module__" 344 (.str "plainlayout.refusals" 306), kE P "__qualname__" 346 (.str "NotPatterns" 345), kE P "__firstlineno__" 348 (.int (72) 347), kE P "__init__" 355 (.ref 118), kE P "__static_attributes__" 356 (.ref 119)] 5), #[]⟩
def o108 : Obj := ⟨(.type "tuple"), none, (.seq #[] 0), #[]⟩
def o109 : Obj := ⟨.none, none, (.fields #[(.int (74) 0), (.int (4) 0), (.ref 117)]), #[]⟩
def o110 : Obj := ⟨(.type "code"), none, (.fields #[(.str "NotPatterns" 339), (.str "NotPatterns" 340), (.str "/claim/cut.py" 341), (.int (72) 0), (.int (0) 0), (.int (0) 0), (.int (0) 0), (.int (0) 0), (.ref 108), (.bool false), (.int (181) 0), (.ref 109), .none, .none, .none, .none, (.int (342) 0), (.int (72) 0), (.str "/claim/cut.py" 343)]), #[]⟩
def o111 : Obj := ⟨(.type "frame"), none, .plain, #[(some (.ref 110)), (some (.ref 3)), (some (.ref 107)), none, (some (.str "plainlayout.refusals" 306)), none, (some (.ref 0))]⟩
def o112 : Obj := ⟨(.type "tuple"), none, (.seq #[] 0), #[]⟩
def o113 : Obj := ⟨.none, none, (.fields #[]), #[]⟩
def o114 : Obj := ⟨(.type "tuple"), none, (.seq #[(.str "self" 352)] 0), #[]⟩
def o115 : Obj := ⟨(.type "tuple"), none, (.seq #[] 0), #[]⟩
def o116 : Obj := ⟨.none, none, (.func ⟨"__init__", "NotPatterns.__init__", defArgs (inClass (topS 29) 0), (.stmts (defBody (inClass (topS 29) 0))), defScope (inClass (topS 29) 0), 0, [], .none, .none, .none, .none, none, .none, .none, 0⟩), #[]⟩
def o117 : Obj := ⟨(.type "code"), none, (.fields #[(.str "__init__" 349), (.str "NotPatterns.__init__" 350), (.str "/claim/cut.py" 351), (.int (74) 0), (.int (1) 0), (.int (0) 0), (.int (0) 0), (.int (3) 0), (.ref 112), (.bool true), (.int (181) 0), (.ref 113), .none, (.ref 114), (.ref 115), (.ref 116), (.int (353) 0), (.int (74) 0), (.str "/claim/cut.py" 354)]), #[]⟩
def o118 : Obj := ⟨(.type "function"), none, (.func (PySem.W.fnOf "__init__" "NotPatterns.__init__" (defArgs (inClass (topS 29) 0)) (defBody (inClass (topS 29) 0)) (defScope (inClass (topS 29) 0)) .none .none .none (.str "plainlayout.refusals" 306) none (.ref 117) .none)), #[]⟩
def o119 : Obj := ⟨(.type "tuple"), none, (.seq #[] 0), #[]⟩
def o120 (P : Params) : Obj := ⟨(.type "dict"), none, (.dict #[kE P "__module__" 344 (.str "plainlayout.refusals" 306), kE P "__firstlineno__" 348 (.int (72) 347), kE P "__init__" 355 (.ref 118), kE P "__static_attributes__" 356 (.ref 119), kE P "__doc__" 357 .none] 2), #[]⟩
def o121 : Obj := ⟨(.type "type"), none, (.cls ⟨"NotPatterns", [(.ref 101)], [(.ref 121), (.ref 101), (.type "Exception"), (.type "BaseException"), (.type "object")], 120, "NotPatterns", true, [], [], false, none, false⟩), #[(some (.ref 105)), none, (some (.str "NotPatterns" 337)), (some (.str "NotPatterns" 345)), (some (.builtin "Exception.__new__")), (some (.bool true))]⟩
def o122 : Obj := ⟨(.type "super"), none, (.fields #[(.ref 121), (.ref 121), (.ref 121)]), #[]⟩
def o123 : Obj := ⟨(.type "builtin_function_or_method"), none, (.fields #[(.builtin "object.__init_subclass__"), (.ref 121)]), #[]⟩
def o124 : Obj := ⟨(.type "tuple"), none, (.seq #[(.ref 101)] 0), #[]⟩
def o125 : Obj := ⟨(.type "builtin_function_or_method"), none, (.fields #[(.builtin "type.__prepare__"), (.type "type")]), #[]⟩
def o126 (P : Params) : Obj := ⟨(.type "dict"), none, (.dict #[kE P "__module__" 367 (.str "plainlayout.refusals" 306), kE P "__qualname__" 369 (.str "OutOfRange" 368), kE P "__firstlineno__" 371 (.int (76) 370), kE P "__init__" 378 (.ref 137), kE P "__static_attributes__" 379 (.ref 138)] 5), #[]⟩
def o127 : Obj := ⟨(.type "tuple"), none, (.seq #[] 0), #[]⟩
def o128 : Obj := ⟨.none, none, (.fields #[(.int (78) 0), (.int (4) 0), (.ref 136)]), #[]⟩
def o129 : Obj := ⟨(.type "code"), none, (.fields #[(.str "OutOfRange" 362), (.str "OutOfRange" 363), (.str "/claim/cut.py" 364), (.int (76) 0), (.int (0) 0), (.int (0) 0), (.int (0) 0), (.int (0) 0), (.ref 127), (.bool false), (.int (181) 0), (.ref 128), .none, .none, .none, .none, (.int (365) 0), (.int (76) 0), (.str "/claim/cut.py" 366)]), #[]⟩
def o130 : Obj := ⟨(.type "frame"), none, .plain, #[(some (.ref 129)), (some (.ref 3)), (some (.ref 126)), none, (some (.str "plainlayout.refusals" 306)), none, (some (.ref 0))]⟩
def o131 : Obj := ⟨(.type "tuple"), none, (.seq #[] 0), #[]⟩
def o132 : Obj := ⟨.none, none, (.fields #[]), #[]⟩
def o133 : Obj := ⟨(.type "tuple"), none, (.seq #[(.str "self" 375)] 0), #[]⟩
def o134 : Obj := ⟨(.type "tuple"), none, (.seq #[] 0), #[]⟩
def o135 : Obj := ⟨.none, none, (.func ⟨"__init__", "OutOfRange.__init__", defArgs (inClass (topS 30) 0), (.stmts (defBody (inClass (topS 30) 0))), defScope (inClass (topS 30) 0), 0, [], .none, .none, .none, .none, none, .none, .none, 0⟩), #[]⟩
def o136 : Obj := ⟨(.type "code"), none, (.fields #[(.str "__init__" 372), (.str "OutOfRange.__init__" 373), (.str "/claim/cut.py" 374), (.int (78) 0), (.int (1) 0), (.int (0) 0), (.int (0) 0), (.int (3) 0), (.ref 131), (.bool true), (.int (181) 0), (.ref 132), .none, (.ref 133), (.ref 134), (.ref 135), (.int (376) 0), (.int (78) 0), (.str "/claim/cut.py" 377)]), #[]⟩
def o137 : Obj := ⟨(.type "function"), none, (.func (PySem.W.fnOf "__init__" "OutOfRange.__init__" (defArgs (inClass (topS 30) 0)) (defBody (inClass (topS 30) 0)) (defScope (inClass (topS 30) 0)) .none .none .none (.str "plainlayout.refusals" 306) none (.ref 136) .none)), #[]⟩
def o138 : Obj := ⟨(.type "tuple"), none, (.seq #[] 0), #[]⟩
def o139 (P : Params) : Obj := ⟨(.type "dict"), none, (.dict #[kE P "__module__" 367 (.str "plainlayout.refusals" 306), kE P "__firstlineno__" 371 (.int (76) 370), kE P "__init__" 378 (.ref 137), kE P "__static_attributes__" 379 (.ref 138), kE P "__doc__" 380 .none] 2), #[]⟩
def o140 : Obj := ⟨(.type "type"), none, (.cls ⟨"OutOfRange", [(.ref 101)], [(.ref 140), (.ref 101), (.type "Exception"), (.type "BaseException"), (.type "object")], 139, "OutOfRange", true, [], [], false, none, false⟩), #[(some (.ref 124)), none, (some (.str "OutOfRange" 360)), (some (.str "OutOfRange" 368)), (some (.builtin "Exception.__new__")), (some (.bool true))]⟩
def o141 : Obj := ⟨(.type "super"), none, (.fields #[(.ref 140), (.ref 140), (.ref 140)]), #[]⟩
def o142 : Obj := ⟨(.type "builtin_function_or_method"), none, (.fields #[(.builtin "object.__init_subclass__"), (.ref 140)]), #[]⟩
def o143 : Obj := ⟨(.type "tuple"), none, (.seq #[(.ref 101)] 0), #[]⟩
def o144 : Obj := ⟨(.type "builtin_function_or_method"), none, (.fields #[(.builtin "type.__prepare__"), (.type "type")]), #[]⟩
def o145 (P : Params) : Obj := ⟨(.type "dict"), none, (.dict #[kE P "__module__" 390 (.str "plainlayout.refusals" 306), kE P "__qualname__" 392 (.str "NotUtf8" 391), kE P "__firstlineno__" 394 (.int (80) 393), kE P "__init__" 401 (.ref 156), kE P "__static_attributes__" 402 (.ref 157)] 5), #[]⟩
def o146 : Obj := ⟨(.type "tuple"), none, (.seq #[] 0), #[]⟩
def o147 : Obj := ⟨.none, none, (.fields #[(.int (82) 0), (.int (4) 0), (.ref 155)]), #[]⟩
def o148 : Obj := ⟨(.type "code"), none, (.fields #[(.str "NotUtf8" 385), (.str "NotUtf8" 386), (.str "/claim/cut.py" 387), (.int (80) 0), (.int (0) 0), (.int (0) 0), (.int (0) 0), (.int (0) 0), (.ref 146), (.bool false), (.int (181) 0), (.ref 147), .none, .none, .none, .none, (.int (388) 0), (.int (80) 0), (.str "/claim/cut.py" 389)]), #[]⟩
def o149 : Obj := ⟨(.type "frame"), none, .plain, #[(some (.ref 148)), (some (.ref 3)), (some (.ref 145)), none, (some (.str "plainlayout.refusals" 306)), none, (some (.ref 0))]⟩
def o150 : Obj := ⟨(.type "tuple"), none, (.seq #[] 0), #[]⟩
def o151 : Obj := ⟨.none, none, (.fields #[]), #[]⟩
def o152 : Obj := ⟨(.type "tuple"), none, (.seq #[(.str "self" 398)] 0), #[]⟩
def o153 : Obj := ⟨(.type "tuple"), none, (.seq #[] 0), #[]⟩
def o154 : Obj := ⟨.none, none, (.func ⟨"__init__", "NotUtf8.__init__", defArgs (inClass (topS 31) 0), (.stmts (defBody (inClass (topS 31) 0))), defScope (inClass (topS 31) 0), 0, [], .none, .none, .none, .none, none, .none, .none, 0⟩), #[]⟩
def o155 : Obj := ⟨(.type "code"), none, (.fields #[(.str "__init__" 395), (.str "NotUtf8.__init__" 396), (.str "/claim/cut.py" 397), (.int (82) 0), (.int (1) 0), (.int (0) 0), (.int (0) 0), (.int (3) 0), (.ref 150), (.bool true), (.int (181) 0), (.ref 151), .none, (.ref 152), (.ref 153), (.ref 154), (.int (399) 0), (.int (82) 0), (.str "/claim/cut.py" 400)]), #[]⟩
def o156 : Obj := ⟨(.type "function"), none, (.func (PySem.W.fnOf "__init__" "NotUtf8.__init__" (defArgs (inClass (topS 31) 0)) (defBody (inClass (topS 31) 0)) (defScope (inClass (topS 31) 0)) .none .none .none (.str "plainlayout.refusals" 306) none (.ref 155) .none)), #[]⟩
def o157 : Obj := ⟨(.type "tuple"), none, (.seq #[] 0), #[]⟩
def o158 (P : Params) : Obj := ⟨(.type "dict"), none, (.dict #[kE P "__module__" 390 (.str "plainlayout.refusals" 306), kE P "__firstlineno__" 394 (.int (80) 393), kE P "__init__" 401 (.ref 156), kE P "__static_attributes__" 402 (.ref 157), kE P "__doc__" 403 .none] 2), #[]⟩
def o159 : Obj := ⟨(.type "type"), none, (.cls ⟨"NotUtf8", [(.ref 101)], [(.ref 159), (.ref 101), (.type "Exception"), (.type "BaseException"), (.type "object")], 158, "NotUtf8", true, [], [], false, none, false⟩), #[(some (.ref 143)), none, (some (.str "NotUtf8" 383)), (some (.str "NotUtf8" 391)), (some (.builtin "Exception.__new__")), (some (.bool true))]⟩
def o160 : Obj := ⟨(.type "super"), none, (.fields #[(.ref 159), (.ref 159), (.ref 159)]), #[]⟩
def o161 : Obj := ⟨(.type "builtin_function_or_method"), none, (.fields #[(.builtin "object.__init_subclass__"), (.ref 159)]), #[]⟩
def o162 : Obj := ⟨(.type "tuple"), none, (.seq #[(.ref 101)] 0), #[]⟩
def o163 : Obj := ⟨(.type "builtin_function_or_method"), none, (.fields #[(.builtin "type.__prepare__"), (.type "type")]), #[]⟩
def o164 (P : Params) : Obj := ⟨(.type "dict"), none, (.dict #[kE P "__module__" 413 (.str "plainlayout.refusals" 306), kE P "__qualname__" 415 (.str "NotFitting" 414), kE P "__firstlineno__" 417 (.int (84) 416), kE P "__init__" 424 (.ref 175), kE P "__static_attributes__" 425 (.ref 176)] 5), #[]⟩
def o165 : Obj := ⟨(.type "tuple"), none, (.seq #[] 0), #[]⟩
def o166 : Obj := ⟨.none, none, (.fields #[(.int (86) 0), (.int (4) 0), (.ref 174)]), #[]⟩
def o167 : Obj := ⟨(.type "code"), none, (.fields #[(.str "NotFitting" 408), (.str "NotFitting" 409), (.str "/claim/cut.py" 410), (.int (84) 0), (.int (0) 0), (.int (0) 0), (.int (0) 0), (.int (0) 0), (.ref 165), (.bool false), (.int (181) 0), (.ref 166), .none, .none, .none, .none, (.int (411) 0), (.int (84) 0), (.str "/claim/cut.py" 412)]), #[]⟩
def o168 : Obj := ⟨(.type "frame"), none, .plain, #[(some (.ref 167)), (some (.ref 3)), (some (.ref 164)), none, (some (.str "plainlayout.refusals" 306)), none, (some (.ref 0))]⟩
def o169 : Obj := ⟨(.type "tuple"), none, (.seq #[] 0), #[]⟩
def o170 : Obj := ⟨.none, none, (.fields #[]), #[]⟩
def o171 : Obj := ⟨(.type "tuple"), none, (.seq #[(.str "self" 421)] 0), #[]⟩
def o172 : Obj := ⟨(.type "tuple"), none, (.seq #[] 0), #[]⟩
def o173 : Obj := ⟨.none, none, (.func ⟨"__init__", "NotFitting.__init__", defArgs (inClass (topS 32) 0), (.stmts (defBody (inClass (topS 32) 0))), defScope (inClass (topS 32) 0), 0, [], .none, .none, .none, .none, none, .none, .none, 0⟩), #[]⟩
def o174 : Obj := ⟨(.type "code"), none, (.fields #[(.str "__init__" 418), (.str "NotFitting.__init__" 419), (.str "/claim/cut.py" 420), (.int (86) 0), (.int (1) 0), (.int (0) 0), (.int (0) 0), (.int (3) 0), (.ref 169), (.bool true), (.int (181) 0), (.ref 170), .none, (.ref 171), (.ref 172), (.ref 173), (.int (422) 0), (.int (86) 0), (.str "/claim/cut.py" 423)]), #[]⟩
def o175 : Obj := ⟨(.type "function"), none, (.func (PySem.W.fnOf "__init__" "NotFitting.__init__" (defArgs (inClass (topS 32) 0)) (defBody (inClass (topS 32) 0)) (defScope (inClass (topS 32) 0)) .none .none .none (.str "plainlayout.refusals" 306) none (.ref 174) .none)), #[]⟩
def o176 : Obj := ⟨(.type "tuple"), none, (.seq #[] 0), #[]⟩
def o177 (P : Params) : Obj := ⟨(.type "dict"), none, (.dict #[kE P "__module__" 413 (.str "plainlayout.refusals" 306), kE P "__firstlineno__" 417 (.int (84) 416), kE P "__init__" 424 (.ref 175), kE P "__static_attributes__" 425 (.ref 176), kE P "__doc__" 426 .none] 2), #[]⟩
def o178 : Obj := ⟨(.type "type"), none, (.cls ⟨"NotFitting", [(.ref 101)], [(.ref 178), (.ref 101), (.type "Exception"), (.type "BaseException"), (.type "object")], 177, "NotFitting", true, [], [], false, none, false⟩), #[(some (.ref 162)), none, (some (.str "NotFitting" 406)), (some (.str "NotFitting" 414)), (some (.builtin "Exception.__new__")), (some (.bool true))]⟩
def o179 : Obj := ⟨(.type "super"), none, (.fields #[(.ref 178), (.ref 178), (.ref 178)]), #[]⟩
def o180 : Obj := ⟨(.type "builtin_function_or_method"), none, (.fields #[(.builtin "object.__init_subclass__"), (.ref 178)]), #[]⟩
def o181 : Obj := ⟨(.type "tuple"), none, (.seq #[] 0), #[]⟩
def o182 : Obj := ⟨(.type "builtin_function_or_method"), none, (.fields #[(.builtin "type.__prepare__"), (.type "type")]), #[]⟩
def o183 (P : Params) : Obj := ⟨(.type "dict"), none, (.dict #[kE P "__module__" 440 (.str "plainlayout.hyphenation" 429), kE P "__qualname__" 442 (.str "Pattern" 441), kE P "__firstlineno__" 444 (.int (90) 443), kE P "__init__" 453 (.ref 194), kE P "__static_attributes__" 456 (.ref 195)] 5), #[]⟩
def o184 : Obj := ⟨(.type "tuple"), none, (.seq #[] 0), #[]⟩
def o185 : Obj := ⟨.none, none, (.fields #[(.int (92) 0), (.int (4) 0), (.ref 193)]), #[]⟩
def o186 : Obj := ⟨(.type "code"), none, (.fields #[(.str "Pattern" 435), (.str "Pattern" 436), (.str "/claim/cut.py" 437), (.int (90) 0), (.int (0) 0), (.int (0) 0), (.int (0) 0), (.int (0) 0), (.ref 184), (.bool false), (.int (181) 0), (.ref 185), .none, .none, .none, .none, (.int (438) 0), (.int (90) 0), (.str "/claim/cut.py" 439)]), #[]⟩
def o187 : Obj := ⟨(.type "frame"), none, .plain, #[(some (.ref 186)), (some (.ref 3)), (some (.ref 183)), none, (some (.str "plainlayout.hyphenation" 429)), none, (some (.ref 0))]⟩
def o188 : Obj := ⟨(.type "tuple"), none, (.seq #[] 0), #[]⟩
def o189 : Obj := ⟨.none, none, (.fields #[]), #[]⟩
def o190 : Obj := ⟨(.type "tuple"), none, (.seq #[(.str "self" 448), (.str "letters" 449), (.str "levels" 450)] 0), #[]⟩
def o191 : Obj := ⟨(.type "tuple"), none, (.seq #[] 0), #[]⟩
def o192 : Obj := ⟨.none, none, (.func ⟨"__init__", "Pattern.__init__", defArgs (inClass (topS 35) 0), (.stmts (defBody (inClass (topS 35) 0))), defScope (inClass (topS 35) 0), 0, [], .none, .none, .none, .none, none, .none, .none, 0⟩), #[]⟩
def o193 : Obj := ⟨(.type "code"), none, (.fields #[(.str "__init__" 445), (.str "Pattern.__init__" 446), (.str "/claim/cut.py" 447), (.int (92) 0), (.int (3) 0), (.int (0) 0), (.int (0) 0), (.int (3) 0), (.ref 188), (.bool true), (.int (181) 0), (.ref 189), .none, (.ref 190), (.ref 191), (.ref 192), (.int (451) 0), (.int (92) 0), (.str "/claim/cut.py" 452)]), #[]⟩
def o194 : Obj := ⟨(.type "function"), none, (.func (PySem.W.fnOf "__init__" "Pattern.__init__" (defArgs (inClass (topS 35) 0)) (defBody (inClass (topS 35) 0)) (defScope (inClass (topS 35) 0)) .none .none .none (.str "plainlayout.hyphenation" 429) none (.ref 193) .none)), #[]⟩
def o195 : Obj := ⟨(.type "tuple"), none, (.seq #[(.str "letters" 454), (.str "levels" 455)] 0), #[]⟩
def o196 (P : Params) : Obj := ⟨(.type "dict"), none, (.dict #[kE P "__module__" 440 (.str "plainlayout.hyphenation" 429), kE P "__firstlineno__" 444 (.int (90) 443), kE P "__init__" 453 (.ref 194), kE P "__static_attributes__" 456 (.ref 195), kE P "__dict__" 458 (.ref 198), kE P "__weakref__" 460 (.ref 199), kE P "__doc__" 461 .none] 4), #[]⟩
def o197 : Obj := ⟨(.type "type"), none, (.cls ⟨"Pattern", [(.type "object")], [(.ref 197), (.type "object")], 196, "Pattern", true, [], [], false, none, false⟩), #[none, none, (some (.str "Pattern" 433)), (some (.str "Pattern" 441)), (some (.builtin "object.__new__")), (some (.bool true))]⟩
def o198 : Obj := ⟨(.type "getset_descriptor"), none, (.fields #[(.str "__dict__" 457), (.ref 197), (.builtin "function.__dict__"), (.builtin "function.__dict__#set")]), #[]⟩
def o199 : Obj := ⟨(.type "getset_descriptor"), none, (.fields #[(.str "__weakref__" 459), (.ref 197), (.builtin "ExceptionGroup.__weakref__"), .none]), #[]⟩
def o200 : Obj := ⟨(.type "super"), none, (.fields #[(.ref 197), (.ref 197), (.ref 197)]), #[]⟩
def o201 : Obj := ⟨(.type "builtin_function_or_method"), none, (.fields #[(.builtin "object.__init_subclass__"), (.ref 197)]), #[]⟩
def o202 : Obj := ⟨(.type "tuple"), none, (.seq #[] 0), #[]⟩
def o203 : Obj := ⟨.none, none, (.fields #[]), #[]⟩
def o204 : Obj := ⟨.none, none, (.func ⟨"patterns_of", "patterns_of", defArgs (topS 36), (.stmts (defBody (topS 36))), defScope (topS 36), 0, [], .none, .none, .none, .none, none, .none, .none, 0⟩), #[]⟩
def o205 : Obj := ⟨(.type "code"), none, (.fields #[(.str "patterns_of" 464), (.str "patterns_of" 465), (.str "/claim/cut.py" 466), (.int (95) 0), (.int (1) 0), (.int (0) 0), (.int (0) 0), (.int (3) 0), (.ref 202), (.bool true), (.int (181) 0), (.ref 203), .none, .none, .none, (.ref 204), (.int (467) 0), (.int (95) 0), (.str "/claim/cut.py" 468)]), #[]⟩
def o206 : Obj := ⟨(.type "function"), none, (.func (PySem.W.fnOf "patterns_of" "patterns_of" (defArgs (topS 36)) (defBody (topS 36)) (defScope (topS 36)) .none .none .none (.str "plainlayout.hyphenation" 429) none (.ref 205) .none)), #[]⟩
def o207 : Obj := ⟨(.type "tuple"), none, (.seq #[] 0), #[]⟩
def o208 : Obj := ⟨.none, none, (.fields #[]), #[]⟩
def o209 : Obj := ⟨(.type "tuple"), none, (.seq #[(.str "word" 473), (.str "letters" 474), (.str "levels" 475), (.str "after_digit" 476), (.str "code" 477)] 0), #[]⟩
def o210 : Obj := ⟨(.type "tuple"), none, (.seq #[] 0), #[]⟩
def o211 : Obj := ⟨.none, none, (.func ⟨"pattern_of", "pattern_of", defArgs (topS 37), (.stmts (defBody (topS 37))), defScope (topS 37), 0, [], .none, .none, .none, .none, none, .none, .none, 0⟩), #[]⟩
def o212 : Obj := ⟨(.type "code"), none, (.fields #[(.str "pattern_of" 470), (.str "pattern_of" 471), (.str "/claim/cut.py" 472), (.int (97) 0), (.int (1) 0), (.int (0) 0), (.int (0) 0), (.int (3) 0), (.ref 207), (.bool true), (.int (181) 0), (.ref 208), .none, (.ref 209), (.ref 210), (.ref 211), (.int (478) 0), (.int (97) 0), (.str "/claim/cut.py" 479)]), #[]⟩
def o213 : Obj := ⟨(.type "function"), none, (.func (PySem.W.fnOf "pattern_of" "pattern_of" (defArgs (topS 37)) (defBody (topS 37)) (defScope (topS 37)) .none .none .none (.str "plainlayout.hyphenation" 429) none (.ref 212) .none)), #[]⟩
def o214 : Obj := ⟨(.type "tuple"), none, (.seq #[] 0), #[]⟩
def o215 : Obj := ⟨.none, none, (.fields #[]), #[]⟩
def o216 : Obj := ⟨.none, none, (.func ⟨"positions_of", "positions_of", defArgs (topS 38), (.stmts (defBody (topS 38))), defScope (topS 38), 0, [], .none, .none, .none, .none, none, .none, .none, 0⟩), #[]⟩
def o217 : Obj := ⟨(.type "code"), none, (.fields #[(.str "positions_of" 481), (.str "positions_of" 482), (.str "/claim/cut.py" 483), (.int (116) 0), (.int (2) 0), (.int (0) 0), (.int (0) 0), (.int (3) 0), (.ref 214), (.bool true), (.int (181) 0), (.ref 215), .none, .none, .none, (.ref 216), (.int (484) 0), (.int (116) 0), (.str "/claim/cut.py" 485)]), #[]⟩
def o218 : Obj := ⟨(.type "function"), none, (.func (PySem.W.fnOf "positions_of" "positions_of" (defArgs (topS 38)) (defBody (topS 38)) (defScope (topS 38)) .none .none .none (.str "plainlayout.hyphenation" 429) none (.ref 217) .none)), #[]⟩
def o219 : Obj := ⟨(.type "tuple"), none, (.seq #[] 0), #[]⟩
def o220 : Obj := ⟨.none, none, (.fields #[]), #[]⟩
def o221 : Obj := ⟨(.type "tuple"), none, (.seq #[(.str "patterns" 490), (.str "dotted" 491), (.str "levels" 492), (.str "pattern" 493), (.str "size" 494), (.str "start" 495), (.str "k" 496)] 0), #[]⟩
def o222 : Obj := ⟨(.type "tuple"), none, (.seq #[] 0), #[]⟩
def o223 : Obj := ⟨.none, none, (.func ⟨"levels_in", "levels_in", defArgs (topS 39), (.stmts (defBody (topS 39))), defScope (topS 39), 0, [], .none, .none, .none, .none, none, .none, .none, 0⟩), #[]⟩
def o224 : Obj := ⟨(.type "code"), none, (.fields #[(.str "levels_in" 487), (.str "levels_in" 488), (.str "/claim/cut.py" 489), (.int (121) 0), (.int (2) 0), (.int (0) 0), (.int (0) 0), (.int (3) 0), (.ref 219), (.bool true), (.int (181) 0), (.ref 220), .none, (.ref 221), (.ref 222), (.ref 223), (.int (497) 0), (.int (121) 0), (.str "/claim/cut.py" 498)]), #[]⟩
def o225 : Obj := ⟨(.type "function"), none, (.func (PySem.W.fnOf "levels_in" "levels_in" (defArgs (topS 39)) (defBody (topS 39)) (defScope (topS 39)) .none .none .none (.str "plainlayout.hyphenation" 429) none (.ref 224) .none)), #[]⟩
def o226 : Obj := ⟨(.type "tuple"), none, (.seq #[] 0), #[]⟩
def o227 : Obj := ⟨(.type "builtin_function_or_method"), none, (.fields #[(.builtin "type.__prepare__"), (.type "type")]), #[]⟩
def o228 (P : Params) : Obj := ⟨(.type "dict"), none, (.dict #[kE P "__module__" 519 (.str "plainlayout.lines" 500), kE P "__qualname__" 521 (.str "Piece" 520), kE P "__firstlineno__" 523 (.int (136) 522), kE P "__init__" 532 (.ref 239), kE P "__static_attributes__" 535 (.ref 240)] 5), #[]⟩
def o229 : Obj := ⟨(.type "tuple"), none, (.seq #[] 0), #[]⟩
def o230 : Obj := ⟨.none, none, (.fields #[(.int (138) 0), (.int (4) 0), (.ref 238)]), #[]⟩
def o231 : Obj := ⟨(.type "code"), none, (.fields #[(.str "Piece" 514), (.str "Piece" 515), (.str "/claim/cut.py" 516), (.int (136) 0), (.int (0) 0), (.int (0) 0), (.int (0) 0), (.int (0) 0), (.ref 229), (.bool false), (.int (181) 0), (.ref 230), .none, .none, .none, .none, (.int (517) 0), (.int (136) 0), (.str "/claim/cut.py" 518)]), #[]⟩
def o232 : Obj := ⟨(.type "frame"), none, .plain, #[(some (.ref 231)), (some (.ref 3)), (some (.ref 228)), none, (some (.str "plainlayout.lines" 500)), none, (some (.ref 0))]⟩
def o233 : Obj := ⟨(.type "tuple"), none, (.seq #[] 0), #[]⟩
def o234 : Obj := ⟨.none, none, (.fields #[]), #[]⟩
def o235 : Obj := ⟨(.type "tuple"), none, (.seq #[(.str "self" 527), (.str "characters" 528), (.str "joint" 529)] 0), #[]⟩
def o236 : Obj := ⟨(.type "tuple"), none, (.seq #[] 0), #[]⟩
def o237 : Obj := ⟨.none, none, (.func ⟨"__init__", "Piece.__init__", defArgs (inClass (topS 46) 0), (.stmts (defBody (inClass (topS 46) 0))), defScope (inClass (topS 46) 0), 0, [], .none, .none, .none, .none, none, .none, .none, 0⟩), #[]⟩
def o238 : Obj := ⟨(.type "code"), none, (.fields #[(.str "__init__" 524), (.str "Piece.__init__" 525), (.str "/claim/cut.py" 526), (.int (138) 0), (.int (3) 0), (.int (0) 0), (.int (0) 0), (.int (3) 0), (.ref 233), (.bool true), (.int (181) 0), (.ref 234), .none, (.ref 235), (.ref 236), (.ref 237), (.int (530) 0), (.int (138) 0), (.str "/claim/cut.py" 531)]), #[]⟩
def o239 : Obj := ⟨(.type "function"), none, (.func (PySem.W.fnOf "__init__" "Piece.__init__" (defArgs (inClass (topS 46) 0)) (defBody (inClass (topS 46) 0)) (defScope (inClass (topS 46) 0)) .none .none .none (.str "plainlayout.lines" 500) none (.ref 238) .none)), #[]⟩
def o240 : Obj := ⟨(.type "tuple"), none, (.seq #[(.str "characters" 533), (.str "joint" 534)] 0), #[]⟩
def o241 (P : Params) : Obj := ⟨(.type "dict"), none, (.dict #[kE P "__module__" 519 (.str "plainlayout.lines" 500), kE P "__firstlineno__" 523 (.int (136) 522), kE P "__init__" 532 (.ref 239), kE P "__static_attributes__" 535 (.ref 240), kE P "__dict__" 537 (.ref 243), kE P "__weakref__" 539 (.ref 244), kE P "__doc__" 540 .none] 4), #[]⟩
def o242 : Obj := ⟨(.type "type"), none, (.cls ⟨"Piece", [(.type "object")], [(.ref 242), (.type "object")], 241, "Piece", true, [], [], false, none, false⟩), #[none, none, (some (.str "Piece" 512)), (some (.str "Piece" 520)), (some (.builtin "object.__new__")), (some (.bool true))]⟩
def o243 : Obj := ⟨(.type "getset_descriptor"), none, (.fields #[(.str "__dict__" 536), (.ref 242), (.builtin "function.__dict__"), (.builtin "function.__dict__#set")]), #[]⟩
def o244 : Obj := ⟨(.type "getset_descriptor"), none, (.fields #[(.str "__weakref__" 538), (.ref 242), (.builtin "ExceptionGroup.__weakref__"), .none]), #[]⟩
def o245 : Obj := ⟨(.type "super"), none, (.fields #[(.ref 242), (.ref 242), (.ref 242)]), #[]⟩
def o246 : Obj := ⟨(.type "builtin_function_or_method"), none, (.fields #[(.builtin "object.__init_subclass__"), (.ref 242)]), #[]⟩
def o247 : Obj := ⟨(.type "tuple"), none, (.seq #[] 0), #[]⟩
def o248 : Obj := ⟨.none, none, (.fields #[]), #[]⟩
def o249 : Obj := ⟨(.type "tuple"), none, (.seq #[(.str "patterns" 546), (.str "text" 547), (.str "pieces" 548), (.str "word" 549)] 0), #[]⟩
def o250 : Obj := ⟨(.type "tuple"), none, (.seq #[] 0), #[]⟩
def o251 : Obj := ⟨.none, none, (.func ⟨"pieces_of", "pieces_of", defArgs (topS 47), (.stmts (defBody (topS 47))), defScope (topS 47), 0, [], .none, .none, .none, .none, none, .none, .none, 0⟩), #[]⟩
def o252 : Obj := ⟨(.type "code"), none, (.fields #[(.str "pieces_of" 543), (.str "pieces_of" 544), (.str "/claim/cut.py" 545), (.int (141) 0), (.int (2) 0), (.int (0) 0), (.int (0) 0), (.int (3) 0), (.ref 247), (.bool true), (.int (181) 0), (.ref 248), .none, (.ref 249), (.ref 250), (.ref 251), (.int (550) 0), (.int (141) 0), (.str "/claim/cut.py" 551)]), #[]⟩
def o253 : Obj := ⟨(.type "function"), none, (.func (PySem.W.fnOf "pieces_of" "pieces_of" (defArgs (topS 47)) (defBody (topS 47)) (defScope (topS 47)) .none .none .none (.str "plainlayout.lines" 500) none (.ref 252) .none)), #[]⟩
def o254 : Obj := ⟨(.type "tuple"), none, (.seq #[] 0), #[]⟩
def o255 : Obj := ⟨.none, none, (.fields #[]), #[]⟩
def o256 : Obj := ⟨(.type "tuple"), none, (.seq #[(.str "patterns" 556), (.str "word" 557), (.str "parts" 558), (.str "pieces" 559), (.str "part" 560)] 0), #[]⟩
def o257 : Obj := ⟨(.type "tuple"), none, (.seq #[] 0), #[]⟩
def o258 : Obj := ⟨.none, none, (.func ⟨"pieces_of_word", "pieces_of_word", defArgs (topS 48), (.stmts (defBody (topS 48))), defScope (topS 48), 0, [], .none, .none, .none, .none, none, .none, .none, 0⟩), #[]⟩
def o259 : Obj := ⟨(.type "code"), none, (.fields #[(.str "pieces_of_word" 553), (.str "pieces_of_word" 554), (.str "/claim/cut.py" 555), (.int (146) 0), (.int (2) 0), (.int (0) 0), (.int (0) 0), (.int (3) 0), (.ref 254), (.bool true), (.int (181) 0), (.ref 255), .none, (.ref 256), (.ref 257), (.ref 258), (.int (561) 0), (.int (146) 0), (.str "/claim/cut.py" 562)]), #[]⟩
def o260 : Obj := ⟨(.type "function"), none, (.func (PySem.W.fnOf "pieces_of_word" "pieces_of_word" (defArgs (topS 48)) (defBody (topS 48)) (defScope (topS 48)) .none .none .none (.str "plainlayout.lines" 500) none (.ref 259) .none)), #[]⟩
def o261 : Obj := ⟨(.type "tuple"), none, (.seq #[] 0), #[]⟩
def o262 : Obj := ⟨.none, none, (.fields #[]), #[]⟩
def o263 : Obj := ⟨(.type "tuple"), none, (.seq #[(.str "word" 567), (.str "parts" 568), (.str "start" 569), (.str "at" 570)] 0), #[]⟩
def o264 : Obj := ⟨(.type "tuple"), none, (.seq #[] 0), #[]⟩
def o265 : Obj := ⟨.none, none, (.func ⟨"parts_of", "parts_of", defArgs (topS 49), (.stmts (defBody (topS 49))), defScope (topS 49), 0, [], .none, .none, .none, .none, none, .none, .none, 0⟩), #[]⟩
def o266 : Obj := ⟨(.type "code"), none, (.fields #[(.str "parts_of" 564), (.str "parts_of" 565), (.str "/claim/cut.py" 566), (.int (153) 0), (.int (1) 0), (.int (0) 0), (.int (0) 0), (.int (3) 0), (.ref 261), (.bool true), (.int (181) 0), (.ref 262), .none, (.ref 263), (.ref 264), (.ref 265), (.int (571) 0), (.int (153) 0), (.str "/claim/cut.py" 572)]), #[]⟩
def o267 : Obj := ⟨(.type "function"), none, (.func (PySem.W.fnOf "parts_of" "parts_of" (defArgs (topS 49)) (defBody (topS 49)) (defScope (topS 49)) .none .none .none (.str "plainlayout.lines" 500) none (.ref 266) .none)), #[]⟩
def o268 : Obj := ⟨(.type "tuple"), none, (.seq #[] 0), #[]⟩
def o269 : Obj := ⟨.none, none, (.fields #[]), #[]⟩
def o270 : Obj := ⟨(.type "tuple"), none, (.seq #[(.str "patterns" 577), (.str "part" 578), (.str "last_joint" 579), (.str "pieces" 580), (.str "start" 581), (.str "position" 582)] 0), #[]⟩
def o271 : Obj := ⟨(.type "tuple"), none, (.seq #[] 0), #[]⟩
def o272 : Obj := ⟨.none, none, (.func ⟨"pieces_of_part", "pieces_of_part", defArgs (topS 50), (.stmts (defBody (topS 50))), defScope (topS 50), 0, [], .none, .none, .none, .none, none, .none, .none, 0⟩), #[]⟩
def o273 : Obj := ⟨(.type "code"), none, (.fields #[(.str "pieces_of_part" 574), (.str "pieces_of_part" 575), (.str "/claim/cut.py" 576), (.int (162) 0), (.int (3) 0), (.int (0) 0), (.int (0) 0), (.int (3) 0), (.ref 268), (.bool true), (.int (181) 0), (.ref 269), .none, (.ref 270), (.ref 271), (.ref 272), (.int (583) 0), (.int (162) 0), (.str "/claim/cut.py" 584)]), #[]⟩
def o274 : Obj := ⟨(.type "function"), none, (.func (PySem.W.fnOf "pieces_of_part" "pieces_of_part" (defArgs (topS 50)) (defBody (topS 50)) (defScope (topS 50)) .none .none .none (.str "plainlayout.lines" 500) none (.ref 273) .none)), #[]⟩
def o275 : Obj := ⟨(.type "tuple"), none, (.seq #[] 0), #[]⟩
def o276 : Obj := ⟨.none, none, (.fields #[]), #[]⟩
def o277 : Obj := ⟨(.type "tuple"), none, (.seq #[(.str "pieces" 589), (.str "text" 590), (.str "piece" 591), (.str "last" 592)] 0), #[]⟩
def o278 : Obj := ⟨(.type "tuple"), none, (.seq #[] 0), #[]⟩
def o279 : Obj := ⟨.none, none, (.func ⟨"line_text", "line_text", defArgs (topS 51), (.stmts (defBody (topS 51))), defScope (topS 51), 0, [], .none, .none, .none, .none, none, .none, .none, 0⟩), #[]⟩
def o280 : Obj := ⟨(.type "code"), none, (.fields #[(.str "line_text" 586), (.str "line_text" 587), (.str "/claim/cut.py" 588), (.int (170) 0), (.int (1) 0), (.int (0) 0), (.int (0) 0), (.int (3) 0), (.ref 275), (.bool true), (.int (181) 0), (.ref 276), .none, (.ref 277), (.ref 278), (.ref 279), (.int (593) 0), (.int (170) 0), (.str "/claim/cut.py" 594)]), #[]⟩
def o281 : Obj := ⟨(.type "function"), none, (.func (PySem.W.fnOf "line_text" "line_text" (defArgs (topS 51)) (defBody (topS 51)) (defScope (topS 51)) .none .none .none (.str "plainlayout.lines" 500) none (.ref 280) .none)), #[]⟩
def o282 : Obj := ⟨(.type "tuple"), none, (.seq #[] 0), #[]⟩
def o283 : Obj := ⟨.none, none, (.fields #[]), #[]⟩
def o284 : Obj := ⟨(.type "tuple"), none, (.seq #[(.str "width" 599), (.str "pieces" 600), (.str "start" 601), (.str "lengths" 602), (.str "length" 603), (.str "piece" 604), (.str "shown" 605)] 0), #[]⟩
def o285 : Obj := ⟨(.type "tuple"), none, (.seq #[] 0), #[]⟩
def o286 : Obj := ⟨.none, none, (.func ⟨"allowed_lengths", "allowed_lengths", defArgs (topS 52), (.stmts (defBody (topS 52))), defScope (topS 52), 0, [], .none, .none, .none, .none, none, .none, .none, 0⟩), #[]⟩
def o287 : Obj := ⟨(.type "code"), none, (.fields #[(.str "allowed_lengths" 596), (.str "allowed_lengths" 597), (.str "/claim/cut.py" 598), (.int (181) 0), (.int (3) 0), (.int (0) 0), (.int (0) 0), (.int (3) 0), (.ref 282), (.bool true), (.int (181) 0), (.ref 283), .none, (.ref 284), (.ref 285), (.ref 286), (.int (606) 0), (.int (181) 0), (.str "/claim/cut.py" 607)]), #[]⟩
def o288 : Obj := ⟨(.type "function"), none, (.func (PySem.W.fnOf "allowed_lengths" "allowed_lengths" (defArgs (topS 52)) (defBody (topS 52)) (defScope (topS 52)) .none .none .none (.str "plainlayout.lines" 500) none (.ref 287) .none)), #[]⟩
def o289 : Obj := ⟨(.type "tuple"), none, (.seq #[] 0), #[]⟩
def o290 : Obj := ⟨.none, none, (.fields #[]), #[]⟩
def o291 : Obj := ⟨(.type "tuple"), none, (.seq #[(.str "width" 612), (.str "length" 613), (.str "joint" 614), (.str "is_last" 615), (.str "result" 616)] 0), #[]⟩
def o292 : Obj := ⟨(.type "tuple"), none, (.seq #[] 0), #[]⟩
def o293 : Obj := ⟨.none, none, (.func ⟨"line_cost", "line_cost", defArgs (topS 53), (.stmts (defBody (topS 53))), defScope (topS 53), 0, [], .none, .none, .none, .none, none, .none, .none, 0⟩), #[]⟩
def o294 : Obj := ⟨(.type "code"), none, (.fields #[(.str "line_cost" 609), (.str "line_cost" 610), (.str "/claim/cut.py" 611), (.int (193) 0), (.int (4) 0), (.int (0) 0), (.int (0) 0), (.int (3) 0), (.ref 289), (.bool true), (.int (181) 0), (.ref 290), .none, (.ref 291), (.ref 292), (.ref 293), (.int (617) 0), (.int (193) 0), (.str "/claim/cut.py" 618)]), #[]⟩
def o295 : Obj := ⟨(.type "function"), none, (.func (PySem.W.fnOf "line_cost" "line_cost" (defArgs (topS 53)) (defBody (topS 53)) (defScope (topS 53)) .none .none .none (.str "plainlayout.lines" 500) none (.ref 294) .none)), #[]⟩
def o296 : Obj := ⟨(.type "tuple"), none, (.seq #[] 0), #[]⟩
def o297 : Obj := ⟨.none, none, (.fields #[]), #[]⟩
def o298 : Obj := ⟨(.type "tuple"), none, (.seq #[(.str "width" 623), (.str "pieces" 624), (.str "start" 625), (.str "costs" 626), (.str "end" 627), (.str "length" 628)] 0), #[]⟩
def o299 : Obj := ⟨(.type "tuple"), none, (.seq #[] 0), #[]⟩
def o300 : Obj := ⟨.none, none, (.func ⟨"allowed_costs", "allowed_costs", defArgs (topS 54), (.stmts (defBody (topS 54))), defScope (topS 54), 0, [], .none, .none, .none, .none, none, .none, .none, 0⟩), #[]⟩
def o301 : Obj := ⟨(.type "code"), none, (.fields #[(.str "allowed_costs" 620), (.str "allowed_costs" 621), (.str "/claim/cut.py" 622), (.int (198) 0), (.int (3) 0), (.int (0) 0), (.int (0) 0), (.int (3) 0), (.ref 296), (.bool true), (.int (181) 0), (.ref 297), .none, (.ref 298), (.ref 299), (.ref 300), (.int (629) 0), (.int (198) 0), (.str "/claim/cut.py" 630)]), #[]⟩
def o302 : Obj := ⟨(.type "function"), none, (.func (PySem.W.fnOf "allowed_costs" "allowed_costs" (defArgs (topS 54)) (defBody (topS 54)) (defScope (topS 54)) .none .none .none (.str "plainlayout.lines" 500) none (.ref 301) .none)), #[]⟩
def o303 : Obj := ⟨(.type "tuple"), none, (.seq #[] 0), #[]⟩
def o304 : Obj := ⟨.none, none, (.fields #[]), #[]⟩
def o305 : Obj := ⟨(.type "tuple"), none, (.seq #[(.str "width" 635), (.str "pieces" 636)] 0), #[]⟩
def o306 : Obj := ⟨(.type "tuple"), none, (.seq #[(.str "width" 637), (.str "pieces" 638)] 0), #[]⟩
def o307 : Obj := ⟨.none, none, (.func ⟨"best_counts", "best_counts", defArgs (topS 55), (.stmts (defBody (topS 55))), defScope (topS 55), 0, [], .none, .none, .none, .none, none, .none, .none, 0⟩), #[]⟩
def o308 : Obj := ⟨(.type "code"), none, (.fields #[(.str "best_counts" 632), (.str "best_counts" 633), (.str "/claim/cut.py" 634), (.int (203) 0), (.int (2) 0), (.int (0) 0), (.int (0) 0), (.int (3) 0), (.ref 303), (.bool true), (.int (181) 0), (.ref 304), .none, (.ref 305), (.ref 306), (.ref 307), (.int (639) 0), (.int (203) 0), (.str "/claim/cut.py" 640)]), #[]⟩
def o309 : Obj := ⟨(.type "function"), none, (.func (PySem.W.fnOf "best_counts" "best_counts" (defArgs (topS 55)) (defBody (topS 55)) (defScope (topS 55)) .none .none .none (.str "plainlayout.lines" 500) none (.ref 308) .none)), #[]⟩
def o310 : Obj := ⟨(.type "tuple"), none, (.seq #[] 0), #[]⟩
def o311 : Obj := ⟨.none, none, (.fields #[]), #[]⟩
def o312 : Obj := ⟨(.type "tuple"), none, (.seq #[(.str "width" 645), (.str "pieces" 646), (.str "counts" 647), (.str "total" 648), (.str "start" 649), (.str "count" 650), (.str "end" 651), (.str "length" 652)] 0), #[]⟩
def o313 : Obj := ⟨(.type "tuple"), none, (.seq #[] 0), #[]⟩
def o314 : Obj := ⟨.none, none, (.func ⟨"division_cost", "division_cost", defArgs (topS 56), (.stmts (defBody (topS 56))), defScope (topS 56), 0, [], .none, .none, .none, .none, none, .none, .none, 0⟩), #[]⟩
def o315 : Obj := ⟨(.type "code"), none, (.fields #[(.str "division_cost" 642), (.str "division_cost" 643), (.str "/claim/cut.py" 644), (.int (205) 0), (.int (3) 0), (.int (0) 0), (.int (0) 0), (.int (3) 0), (.ref 310), (.bool true), (.int (181) 0), (.ref 311), .none, (.ref 312), (.ref 313), (.ref 314), (.int (653) 0), (.int (205) 0), (.str "/claim/cut.py" 654)]), #[]⟩
def o316 : Obj := ⟨(.type "function"), none, (.func (PySem.W.fnOf "division_cost" "division_cost" (defArgs (topS 56)) (defBody (topS 56)) (defScope (topS 56)) .none .none .none (.str "plainlayout.lines" 500) none (.ref 315) .none)), #[]⟩
def o317 : Obj := ⟨(.type "tuple"), none, (.seq #[(.int (0) 658), (.int (0) 659), (.int (128) 660), (.int (2048) 661), (.int (65536) 662)] 0), #[]⟩
def o318 : Obj := ⟨(.type "tuple"), none, (.seq #[(.int (0) 664), (.int (0) 665), (.int (192) 666), (.int (224) 667), (.int (240) 668)] 0), #[]⟩
def o319 : Obj := ⟨(.type "tuple"), none, (.seq #[] 0), #[]⟩
def o320 : Obj := ⟨.none, none, (.fields #[]), #[]⟩
def o321 : Obj := ⟨(.type "tuple"), none, (.seq #[(.str "octets" 673), (.str "text" 674), (.str "at" 675), (.str "size" 676)] 0), #[]⟩
def o322 : Obj := ⟨(.type "tuple"), none, (.seq #[] 0), #[]⟩
def o323 : Obj := ⟨.none, none, (.func ⟨"read_utf8", "read_utf8", defArgs (topS 60), (.stmts (defBody (topS 60))), defScope (topS 60), 0, [], .none, .none, .none, .none, none, .none, .none, 0⟩), #[]⟩
def o324 : Obj := ⟨(.type "code"), none, (.fields #[(.str "read_utf8" 670), (.str "read_utf8" 671), (.str "/claim/cut.py" 672), (.int (223) 0), (.int (1) 0), (.int (0) 0), (.int (0) 0), (.int (3) 0), (.ref 319), (.bool true), (.int (181) 0), (.ref 320), .none, (.ref 321), (.ref 322), (.ref 323), (.int (677) 0), (.int (223) 0), (.str "/claim/cut.py" 678)]), #[]⟩
def o325 : Obj := ⟨(.type "function"), none, (.func (PySem.W.fnOf "read_utf8" "read_utf8" (defArgs (topS 60)) (defBody (topS 60)) (defScope (topS 60)) .none .none .none (.str "plainlayout.utf8" 656) none (.ref 324) .none)), #[]⟩
def o326 : Obj := ⟨(.type "tuple"), none, (.seq #[] 0), #[]⟩
def o327 : Obj := ⟨.none, none, (.fields #[]), #[]⟩
def o328 : Obj := ⟨(.type "tuple"), none, (.seq #[(.str "lead" 683)] 0), #[]⟩
def o329 : Obj := ⟨(.type "tuple"), none, (.seq #[] 0), #[]⟩
def o330 : Obj := ⟨.none, none, (.func ⟨"sequence_size", "sequence_size", defArgs (topS 61), (.stmts (defBody (topS 61))), defScope (topS 61), 0, [], .none, .none, .none, .none, none, .none, .none, 0⟩), #[]⟩
def o331 : Obj := ⟨(.type "code"), none, (.fields #[(.str "sequence_size" 680), (.str "sequence_size" 681), (.str "/claim/cut.py" 682), (.int (231) 0), (.int (1) 0), (.int (0) 0), (.int (0) 0), (.int (3) 0), (.ref 326), (.bool true), (.int (181) 0), (.ref 327), .none, (.ref 328), (.ref 329), (.ref 330), (.int (684) 0), (.int (231) 0), (.str "/claim/cut.py" 685)]), #[]⟩
def o332 : Obj := ⟨(.type "function"), none, (.func (PySem.W.fnOf "sequence_size" "sequence_size" (defArgs (topS 61)) (defBody (topS 61)) (defScope (topS 61)) .none .none .none (.str "plainlayout.utf8" 656) none (.ref 331) .none)), #[]⟩
def o333 : Obj := ⟨(.type "tuple"), none, (.seq #[] 0), #[]⟩
def o334 : Obj := ⟨.none, none, (.fields #[]), #[]⟩
def o335 : Obj := ⟨(.type "tuple"), none, (.seq #[(.str "octets" 690), (.str "size" 691), (.str "code" 692), (.str "octet" 693)] 0), #[]⟩
def o336 : Obj := ⟨(.type "tuple"), none, (.seq #[] 0), #[]⟩
def o337 : Obj := ⟨.none, none, (.func ⟨"read_sequence", "read_sequence", defArgs (topS 62), (.stmts (defBody (topS 62))), defScope (topS 62), 0, [], .none, .none, .none, .none, none, .none, .none, 0⟩), #[]⟩
def o338 : Obj := ⟨(.type "code"), none, (.fields #[(.str "read_sequence" 687), (.str "read_sequence" 688), (.str "/claim/cut.py" 689), (.int (241) 0), (.int (2) 0), (.int (0) 0), (.int (0) 0), (.int (3) 0), (.ref 333), (.bool true), (.int (181) 0), (.ref 334), .none, (.ref 335), (.ref 336), (.ref 337), (.int (694) 0), (.int (241) 0), (.str "/claim/cut.py" 695)]), #[]⟩
def o339 : Obj := ⟨(.type "function"), none, (.func (PySem.W.fnOf "read_sequence" "read_sequence" (defArgs (topS 62)) (defBody (topS 62)) (defScope (topS 62)) .none .none .none (.str "plainlayout.utf8" 656) none (.ref 338) .none)), #[]⟩
def o340 : Obj := ⟨(.type "tuple"), none, (.seq #[] 0), #[]⟩
def o341 : Obj := ⟨.none, none, (.fields #[]), #[]⟩
def o342 : Obj := ⟨(.type "tuple"), none, (.seq #[(.str "width" 706), (.str "patterns" 707), (.str "text" 708), (.str "pieces" 709), (.str "refusal" 710), (.str "counts" 711)] 0), #[]⟩
def o343 : Obj := ⟨(.type "tuple"), none, (.seq #[] 0), #[]⟩
def o344 : Obj := ⟨.none, none, (.func ⟨"cost", "cost", defArgs (topS 66), (.stmts (defBody (topS 66))), defScope (topS 66), 0, [], .none, .none, .none, .none, none, .none, .none, 0⟩), #[]⟩
def o345 : Obj := ⟨(.type "code"), none, (.fields #[(.str "cost" 703), (.str "cost" 704), (.str "/claim/cut.py" 705), (.int (255) 0), (.int (3) 0), (.int (0) 0), (.int (0) 0), (.int (3) 0), (.ref 340), (.bool true), (.int (181) 0), (.ref 341), .none, (.ref 342), (.ref 343), (.ref 344), (.int (712) 0), (.int (255) 0), (.str "/claim/cut.py" 713)]), #[]⟩
def o346 : Obj := ⟨(.type "function"), none, (.func (PySem.W.fnOf "cost" "cost" (defArgs (topS 66)) (defBody (topS 66)) (defScope (topS 66)) .none .none .none (.str "plainlayout.typesetting" 697) none (.ref 345) .none)), #[]⟩
def o347 : Obj := ⟨(.type "tuple"), none, (.seq #[] 0), #[]⟩
def o348 : Obj := ⟨.none, none, (.fields #[]), #[]⟩
def o349 : Obj := ⟨(.type "tuple"), none, (.seq #[(.str "width" 718), (.str "patterns" 719), (.str "text" 720), (.str "known" 721)] 0), #[]⟩
def o350 : Obj := ⟨(.type "tuple"), none, (.seq #[] 0), #[]⟩
def o351 : Obj := ⟨.none, none, (.func ⟨"checked_pieces", "checked_pieces", defArgs (topS 67), (.stmts (defBody (topS 67))), defScope (topS 67), 0, [], .none, .none, .none, .none, none, .none, .none, 0⟩), #[]⟩
def o352 : Obj := ⟨(.type "code"), none, (.fields #[(.str "checked_pieces" 715), (.str "checked_pieces" 716), (.str "/claim/cut.py" 717), (.int (262) 0), (.int (3) 0), (.int (0) 0), (.int (0) 0), (.int (3) 0), (.ref 347), (.bool true), (.int (181) 0), (.ref 348), .none, (.ref 349), (.ref 350), (.ref 351), (.int (722) 0), (.int (262) 0), (.str "/claim/cut.py" 723)]), #[]⟩
def o353 : Obj := ⟨(.type "function"), none, (.func (PySem.W.fnOf "checked_pieces" "checked_pieces" (defArgs (topS 67)) (defBody (topS 67)) (defScope (topS 67)) .none .none .none (.str "plainlayout.typesetting" 697) none (.ref 352) .none)), #[]⟩
def o354 : Obj := ⟨(.type "tuple"), none, (.seq #[] 0), #[]⟩
def o355 : Obj := ⟨.none, none, (.fields #[]), #[]⟩
def o356 : Obj := ⟨(.type "tuple"), none, (.seq #[(.str "width" 728)] 0), #[]⟩
def o357 : Obj := ⟨(.type "tuple"), none, (.seq #[] 0), #[]⟩
def o358 : Obj := ⟨.none, none, (.func ⟨"check_width", "check_width", defArgs (topS 68), (.stmts (defBody (topS 68))), defScope (topS 68), 0, [], .none, .none, .none, .none, none, .none, .none, 0⟩), #[]⟩
def o359 : Obj := ⟨(.type "code"), none, (.fields #[(.str "check_width" 725), (.str "check_width" 726), (.str "/claim/cut.py" 727), (.int (266) 0), (.int (1) 0), (.int (0) 0), (.int (0) 0), (.int (3) 0), (.ref 354), (.bool true), (.int (181) 0), (.ref 355), .none, (.ref 356), (.ref 357), (.ref 358), (.int (729) 0), (.int (266) 0), (.str "/claim/cut.py" 730)]), #[]⟩
def o360 : Obj := ⟨(.type "function"), none, (.func (PySem.W.fnOf "check_width" "check_width" (defArgs (topS 68)) (defBody (topS 68)) (defScope (topS 68)) .none .none .none (.str "plainlayout.typesetting" 697) none (.ref 359) .none)), #[]⟩
def t5 (P : Params) : BT := (nd o15 (nd o31 (nd o63 (nd o127 (nd o255 .nil .nil) .nil) (nd o191 (nd o319 .nil .nil) .nil)) (nd o95 (nd o159 (nd o287 .nil .nil) .nil) (nd o223 (nd o351 .nil .nil) .nil))) (nd o47 (nd o79 (nd o143 (nd o271 .nil .nil) .nil) (nd o207 (nd o335 .nil .nil) .nil)) (nd o111 (nd o175 (nd o303 .nil .nil) .nil) (nd o239 .nil .nil))))
def t6 (P : Params) : BT := (nd o23 (nd o39 (nd o71 (nd o135 (nd o263 .nil .nil) .nil) (nd o199 (nd o327 .nil .nil) .nil)) (nd o103 (nd o167 (nd o295 .nil .nil) .nil) (nd o231 (nd o359 .nil .nil) .nil))) (nd o55 (nd (o87 P) (nd o151 (nd o279 .nil .nil) .nil) (nd o215 (nd o343 .nil .nil) .nil)) (nd o119 (nd (o183 P) (nd o311 .nil .nil) .nil) (nd o247 .nil .nil))))
def t4 (P : Params) : BT := nd (boot_o_7 P) (t5 P) (t6 P)
def t8 (P : Params) : BT := (nd o19 (nd o35 (nd o67 (nd o131 (nd o259 .nil .nil) .nil) (nd o195 (nd o323 .nil .nil) .nil)) (nd o99 (nd o163 (nd o291 .nil .nil) .nil) (nd o227 (nd o355 .nil .nil) .nil))) (nd o51 (nd o83 (nd o147 (nd o275 .nil .nil) .nil) (nd o211 (nd o339 .nil .nil) .nil)) (nd o115 (nd o179 (nd o307 .nil .nil) .nil) (nd o243 .nil .nil))))
def t9 (P : Params) : BT := (nd o27 (nd o43 (nd o75 (nd (o139 P) (nd o267 .nil .nil) .nil) (nd o203 (nd o331 .nil .nil) .nil)) (nd (o107 P) (nd o171 (nd o299 .nil .nil) .nil) (nd o235 .nil .nil))) (nd o59 (nd o91 (nd o155 (nd o283 .nil .nil) .nil) (nd o219 (nd o347 .nil .nil) .nil)) (nd o123 (nd o187 (nd o315 .nil .nil) .nil) (nd o251 .nil .nil))))
def t7 (P : Params) : BT := nd o11 (t8 P) (t9 P)
def t3 (P : Params) : BT := nd (o3 P) (t4 P) (t7 P)
def t12 (P : Params) : BT := (nd o17 (nd o33 (nd o65 (nd o129 (nd o257 .nil .nil) .nil) (nd o193 (nd o321 .nil .nil) .nil)) (nd o97 (nd o161 (nd o289 .nil .nil) .nil) (nd o225 (nd o353 .nil .nil) .nil))) (nd o49 (nd o81 (nd (o145 P) (nd o273 .nil .nil) .nil) (nd o209 (nd o337 .nil .nil) .nil)) (nd o113 (nd (o177 P) (nd o305 .nil .nil) .nil) (nd (o241 P) .nil .nil))))
def t13 (P : Params) : BT := (nd o25 (nd o41 (nd o73 (nd o137 (nd o265 .nil .nil) .nil) (nd o201 (nd o329 .nil .nil) .nil)) (nd o105 (nd o169 (nd o297 .nil .nil) .nil) (nd o233 .nil .nil))) (nd o57 (nd o89 (nd o153 (nd o281 .nil .nil) .nil) (nd o217 (nd o345 .nil .nil) .nil)) (nd o121 (nd o185 (nd o313 .nil .nil) .nil) (nd o249 .nil .nil))))
def t11 (P : Params) : BT := nd (boot_o_9 P) (t12 P) (t13 P)
def t15 (P : Params) : BT := (nd o21 (nd o37 (nd o69 (nd o133 (nd o261 .nil .nil) .nil) (nd o197 (nd o325 .nil .nil) .nil)) (nd o101 (nd o165 (nd o293 .nil .nil) .nil) (nd o229 (nd o357 .nil .nil) .nil))) (nd o53 (nd o85 (nd o149 (nd o277 .nil .nil) .nil) (nd o213 (nd o341 .nil .nil) .nil)) (nd o117 (nd o181 (nd o309 .nil .nil) .nil) (nd o245 .nil .nil))))
def t16 (P : Params) : BT := (nd o29 (nd o45 (nd o77 (nd o141 (nd o269 .nil .nil) .nil) (nd o205 (nd o333 .nil .nil) .nil)) (nd o109 (nd o173 (nd o301 .nil .nil) .nil) (nd o237 .nil .nil))) (nd o61 (nd o93 (nd o157 (nd o285 .nil .nil) .nil) (nd o221 (nd o349 .nil .nil) .nil)) (nd o125 (nd o189 (nd o317 .nil .nil) .nil) (nd o253 .nil .nil))))
def t14 (P : Params) : BT := nd o13 (t15 P) (t16 P)
def t10 (P : Params) : BT := nd (boot_o_5 P) (t11 P) (t14 P)
def t2 (P : Params) : BT := nd (boot_o_1 P) (t3 P) (t10 P)
def t20 (P : Params) : BT := (nd o16 (nd o32 (nd o64 (nd o128 (nd o256 .nil .nil) .nil) (nd o192 (nd o320 .nil .nil) .nil)) (nd o96 (nd o160 (nd o288 .nil .nil) .nil) (nd o224 (nd o352 .nil .nil) .nil))) (nd o48 (nd o80 (nd o144 (nd o272 .nil .nil) .nil) (nd o208 (nd o336 .nil .nil) .nil)) (nd o112 (nd o176 (nd o304 .nil .nil) .nil) (nd o240 .nil .nil))))
def t21 (P : Params) : BT := (nd o24 (nd o40 (nd o72 (nd o136 (nd o264 .nil .nil) .nil) (nd o200 (nd o328 .nil .nil) .nil)) (nd o104 (nd o168 (nd o296 .nil .nil) .nil) (nd o232 (nd o360 .nil .nil) .nil))) (nd o56 (nd o88 (nd o152 (nd o280 .nil .nil) .nil) (nd o216 (nd o344 .nil .nil) .nil)) (nd (o120 P) (nd o184 (nd o312 .nil .nil) .nil) (nd o248 .nil .nil))))
def t19 (P : Params) : BT := nd (boot_o_8 P) (t20 P) (t21 P)
def t23 (P : Params) : BT := (nd o20 (nd o36 (nd o68 (nd o132 (nd o260 .nil .nil) .nil) (nd (o196 P) (nd o324 .nil .nil) .nil)) (nd (o100 P) (nd (o164 P) (nd o292 .nil .nil) .nil) (nd (o228 P) (nd o356 .nil .nil) .nil))) (nd o52 (nd o84 (nd o148 (nd o276 .nil .nil) .nil) (nd o212 (nd o340 .nil .nil) .nil)) (nd o116 (nd o180 (nd o308 .nil .nil) .nil) (nd o244 .nil .nil))))
def t24 (P : Params) : BT := (nd o28 (nd o44 (nd o76 (nd o140 (nd o268 .nil .nil) .nil) (nd o204 (nd o332 .nil .nil) .nil)) (nd o108 (nd o172 (nd o300 .nil .nil) .nil) (nd o236 .nil .nil))) (nd o60 (nd o92 (nd o156 (nd o284 .nil .nil) .nil) (nd o220 (nd o348 .nil .nil) .nil)) (nd o124 (nd o188 (nd o316 .nil .nil) .nil) (nd o252 .nil .nil))))
def t22 (P : Params) : BT := nd o12_1 (t23 P) (t24 P)
def t18 (P : Params) : BT := nd (boot_o_4 P) (t19 P) (t22 P)
def t27 (P : Params) : BT := (nd o18 (nd o34 (nd o66 (nd o130 (nd o258 .nil .nil) .nil) (nd o194 (nd o322 .nil .nil) .nil)) (nd o98 (nd o162 (nd o290 .nil .nil) .nil) (nd o226 (nd o354 .nil .nil) .nil))) (nd o50 (nd o82 (nd o146 (nd o274 .nil .nil) .nil) (nd o210 (nd o338 .nil .nil) .nil)) (nd o114 (nd o178 (nd o306 .nil .nil) .nil) (nd o242 .nil .nil))))
def t28 (P : Params) : BT := (nd o26 (nd o42 (nd o74 (nd o138 (nd o266 .nil .nil) .nil) (nd o202 (nd o330 .nil .nil) .nil)) (nd o106 (nd o170 (nd o298 .nil .nil) .nil) (nd o234 .nil .nil))) (nd o58 (nd o90 (nd o154 (nd o282 .nil .nil) .nil) (nd o218 (nd o346 .nil .nil) .nil)) (nd o122 (nd o186 (nd o314 .nil .nil) .nil) (nd o250 .nil .nil))))
def t26 (P : Params) : BT := nd (boot_o_10 P) (t27 P) (t28 P)
def t30 (P : Params) : BT := (nd o22 (nd o38 (nd o70 (nd o134 (nd o262 .nil .nil) .nil) (nd o198 (nd o326 .nil .nil) .nil)) (nd o102 (nd o166 (nd o294 .nil .nil) .nil) (nd o230 (nd o358 .nil .nil) .nil))) (nd o54 (nd o86 (nd o150 (nd o278 .nil .nil) .nil) (nd o214 (nd o342 .nil .nil) .nil)) (nd o118 (nd o182 (nd o310 .nil .nil) .nil) (nd o246 .nil .nil))))
def t31 (P : Params) : BT := (nd o30 (nd o46 (nd o78 (nd o142 (nd o270 .nil .nil) .nil) (nd o206 (nd o334 .nil .nil) .nil)) (nd o110 (nd o174 (nd o302 .nil .nil) .nil) (nd o238 .nil .nil))) (nd o62 (nd o94 (nd (o158 P) (nd o286 .nil .nil) .nil) (nd o222 (nd o350 .nil .nil) .nil)) (nd (o126 P) (nd o190 (nd o318 .nil .nil) .nil) (nd o254 .nil .nil))))
def t29 (P : Params) : BT := nd o14 (t30 P) (t31 P)
def t25 (P : Params) : BT := nd (boot_o_6 P) (t26 P) (t29 P)
def t17 (P : Params) : BT := nd (o2 P) (t18 P) (t25 P)
def t1 (P : Params) : BT := nd (boot_o_0 P) (t2 P) (t17 P)
def S0 (P : Params) (os : OsState) : SharedT := ⟨(t0 P), 15, {}, #[], boot_drawn, 187, os⟩
def S1 (P : Params) (os : OsState) : SharedT := ⟨(t1 P), 361, {}, #[], boot_drawn, 732, os⟩
def l0 : List Stmt := [topS 0, topS 1, topS 2, topS 3, topS 4, topS 5, topS 6, topS 7, topS 8, topS 9, topS 10, topS 11, topS 12, topS 13, topS 14, topS 15, topS 16, topS 17, topS 18, topS 19, topS 20, topS 21, topS 22, topS 23, topS 24, topS 25, topS 26, topS 27, topS 28, topS 29, topS 30, topS 31, topS 32, topS 33, topS 34, topS 35, topS 36, topS 37, topS 38, topS 39, topS 40, topS 41, topS 42, topS 43, topS 44, topS 45, topS 46, topS 47, topS 48, topS 49, topS 50, topS 51, topS 52, topS 53, topS 54, topS 55, topS 56, topS 57, topS 58, topS 59, topS 60, topS 61, topS 62, topS 63, topS 64, topS 65, topS 66, topS 67, topS 68]
def env : Env := { scope := R.prog.main.scope, locals := mainGlobals, globals := mainGlobals, cells := [], code := .ref 13, frame := some 14 }
def B : List Stmt := behindTheImports R.prog
def cT : Code := .body B env
theorem body_is : B = l0 ++ [] := by kernel_rfl
def p0 : Pos := ⟨0, 0, 0, 0⟩
def bootS (P : Params) (os : OsState) : SharedT := ⟨(nd (boot_o_0 P) (nd (boot_o_1 P) (nd (boot_o_3 P) (nd (boot_o_7 P) .nil .nil) .nil) (nd (boot_o_5 P) (nd (boot_o_9 P) .nil .nil) .nil)) (nd (boot_o_2 P) (nd (boot_o_4 P) (nd (boot_o_8 P) .nil .nil) .nil) (nd (boot_o_6 P) (nd (boot_o_10 P) .nil .nil) .nil))), 11, {}, #[], boot_drawn, boot_toks, os⟩
theorem boot_is (w : World) (os : OsState) : (bootS w.params os).abs = ⟨boot_heap w.params, #[], boot_drawn, boot_toks, os⟩ := by kernel_rfl
theorem run_pre (w : World) (os : OsState) : tgF (stepQ (denQ tabQ) R.prog w) 11 (some (.ref 6)) 12 (bootS w.params os) (topStub R.prog) = some (S0 w.params os, ⟨denQ tabQ (.body B env), cT, p0, [topFrame p0]⟩) := by kernel_rfl
theorem run_block (w : World) (os : OsState) (pos q : Pos) : sgF (stepQ (denQ tabQ) R.prog w) 11 (some (.ref 6)) 1 (S0 w.params os) (blockOf B env cT pos [topFrame q]) = some (.next, S0 w.params os, cT) := by kernel_rfl
theorem run0 (w : World) : PieceQ R.prog 11 (some (.ref 6)) env cT 2895 l0 S0 S1 w := by
  intro os pos q
  kernel_rfl
def H1 (P : Params) : Heap := absHeap (t1 P) 361 {}
theorem run_fin (w : World) (os : OsState) (pos : Pos) : topRun treeTable R.prog w 11 (some (.ref 6)) 2 (S1 w.params os).abs (restOf [] env cT pos [topFrame p0]) = some ⟨H1 w.params, #[], boot_drawn, 732, os⟩ := by kernel_rfl
theorem run_all (w : World) (os : OsState) : topRun treeTable R.prog w 11 (some (.ref 6)) (12 + (1 + (2895 + 2))) ⟨boot_heap w.params, #[], boot_drawn, boot_toks, os⟩ (topStub R.prog) = some ⟨H1 w.params, #[], boot_drawn, 732, os⟩ := by
  rw [← boot_is]
  have h := run_pre w os
  rw [← stepQ_is, ← denQ_eq, ← tabQ_eq] at h
  refine go_top (tgF_ok h) (block_go (run_block w os _ _) fun pos => ?_)
  rw [body_is]
  exact piece_go (run0 w) (run_fin w os) pos
theorem looks (w : World) (os : OsState) : looksF R.prog (boot_heap w.params) ⟨H1 w.params, #[], boot_drawn, 732, os⟩ = true := by kernel_rfl
theorem seen (w : World) (os : OsState) : seenQ qv names (importedModules R.prog.main.body) (fun s => xlAt qv [] s && recOk [] s) ⟨H1 w.params, #[], boot_drawn, 732, os⟩ = openGood qv names := by kernel_rfl
end
end Hd

namespace Pl
noncomputable section
open PySem PySem.Spec PyProof.Rows L2 LamX
open PySem.W (nsIn findIn codeIn keepIn)
def K0 (P : Params) : PySem.W.Frag := [(3, (Hd.o3 P)), (0, (PySem.W.boot_o_0 P)), (1, (PySem.W.boot_o_1 P)), (2, (Hd.o2 P)), (4, (PySem.W.boot_o_4 P)), (5, (PySem.W.boot_o_5 P)), (6, (PySem.W.boot_o_6 P)), (7, (PySem.W.boot_o_7 P)), (8, (PySem.W.boot_o_8 P)), (9, (PySem.W.boot_o_9 P)), (10, (PySem.W.boot_o_10 P)), (11, Hd.o11), (13, Hd.o13), (14, Hd.o14), (15, Hd.o15), (17, Hd.o17), (18, Hd.o18), (19, Hd.o19), (20, Hd.o20), (21, Hd.o21), (22, Hd.o22), (24, Hd.o24), (25, Hd.o25), (26, Hd.o26), (27, Hd.o27), (28, Hd.o28), (29, Hd.o29), (31, Hd.o31), (32, Hd.o32), (33, Hd.o33), (34, Hd.o34), (35, Hd.o35), (36, Hd.o36), (38, Hd.o38), (39, Hd.o39), (40, Hd.o40), (41, Hd.o41), (42, Hd.o42), (43, Hd.o43), (45, Hd.o45)]
def K1 (P : Params) : PySem.W.Frag := [(46, Hd.o46), (47, Hd.o47), (48, Hd.o48), (49, Hd.o49), (50, Hd.o50), (52, Hd.o52), (53, Hd.o53), (54, Hd.o54), (55, Hd.o55), (56, Hd.o56), (57, Hd.o57), (59, Hd.o59), (60, Hd.o60), (61, Hd.o61), (62, Hd.o62), (63, Hd.o63), (64, Hd.o64), (66, Hd.o66), (67, Hd.o67), (68, Hd.o68), (69, Hd.o69), (70, Hd.o70), (71, Hd.o71), (73, Hd.o73), (74, Hd.o74), (75, Hd.o75), (76, Hd.o76), (77, Hd.o77), (78, Hd.o78), (80, Hd.o80), (81, Hd.o81), (82, Hd.o82), (83, Hd.o83), (84, Hd.o84), (85, Hd.o85), (86, Hd.o86), (87, (Hd.o87 P)), (88, Hd.o88), (90, Hd.o90), (91, Hd.o91)]
def K2 (P : Params) : PySem.W.Frag := [(92, Hd.o92), (94, Hd.o94), (95, Hd.o95), (96, Hd.o96), (97, Hd.o97), (98, Hd.o98), (99, Hd.o99), (100, (Hd.o100 P)), (101, Hd.o101), (102, Hd.o102), (103, Hd.o103), (104, Hd.o104), (105, Hd.o105), (106, Hd.o106), (107, (Hd.o107 P)), (108, Hd.o108), (110, Hd.o110), (111, Hd.o111), (112, Hd.o112), (114, Hd.o114), (115, Hd.o115), (116, Hd.o116), (117, Hd.o117), (118, Hd.o118), (119, Hd.o119), (120, (Hd.o120 P)), (121, Hd.o121), (122, Hd.o122), (123, Hd.o123), (124, Hd.o124), (125, Hd.o125), (126, (Hd.o126 P)), (127, Hd.o127), (129, Hd.o129), (130, Hd.o130), (131, Hd.o131), (133, Hd.o133), (134, Hd.o134), (135, Hd.o135), (136, Hd.o136)]
def K3 (P : Params) : PySem.W.Frag := [(137, Hd.o137), (138, Hd.o138), (139, (Hd.o139 P)), (140, Hd.o140), (141, Hd.o141), (142, Hd.o142), (143, Hd.o143), (144, Hd.o144), (145, (Hd.o145 P)), (146, Hd.o146), (148, Hd.o148), (149, Hd.o149), (150, Hd.o150), (152, Hd.o152), (153, Hd.o153), (154, Hd.o154), (155, Hd.o155), (156, Hd.o156), (157, Hd.o157), (158, (Hd.o158 P)), (159, Hd.o159), (160, Hd.o160), (161, Hd.o161), (162, Hd.o162), (163, Hd.o163), (164, (Hd.o164 P)), (165, Hd.o165), (167, Hd.o167), (168, Hd.o168), (169, Hd.o169), (171, Hd.o171), (172, Hd.o172), (173, Hd.o173), (174, Hd.o174), (175, Hd.o175), (176, Hd.o176), (177, (Hd.o177 P)), (178, Hd.o178), (179, Hd.o179), (180, Hd.o180)]
def K4 (P : Params) : PySem.W.Frag := [(181, Hd.o181), (182, Hd.o182), (183, (Hd.o183 P)), (184, Hd.o184), (186, Hd.o186), (187, Hd.o187), (188, Hd.o188), (190, Hd.o190), (191, Hd.o191), (192, Hd.o192), (193, Hd.o193), (194, Hd.o194), (195, Hd.o195), (196, (Hd.o196 P)), (197, Hd.o197), (198, Hd.o198), (199, Hd.o199), (200, Hd.o200), (201, Hd.o201), (202, Hd.o202), (204, Hd.o204), (205, Hd.o205), (206, Hd.o206), (207, Hd.o207), (209, Hd.o209), (210, Hd.o210), (211, Hd.o211), (212, Hd.o212), (213, Hd.o213), (214, Hd.o214), (216, Hd.o216), (217, Hd.o217), (218, Hd.o218), (219, Hd.o219), (221, Hd.o221), (222, Hd.o222), (223, Hd.o223), (224, Hd.o224), (225, Hd.o225), (226, Hd.o226)]
def K5 (P : Params) : PySem.W.Frag := [(227, Hd.o227), (228, (Hd.o228 P)), (229, Hd.o229), (231, Hd.o231), (232, Hd.o232), (233, Hd.o233), (235, Hd.o235), (236, Hd.o236), (237, Hd.o237), (238, Hd.o238), (239, Hd.o239), (240, Hd.o240), (241, (Hd.o241 P)), (242, Hd.o242), (243, Hd.o243), (244, Hd.o244), (245, Hd.o245), (246, Hd.o246), (247, Hd.o247), (249, Hd.o249), (250, Hd.o250), (251, Hd.o251), (252, Hd.o252), (253, Hd.o253), (254, Hd.o254), (256, Hd.o256), (257, Hd.o257), (258, Hd.o258), (259, Hd.o259), (260, Hd.o260), (261, Hd.o261), (263, Hd.o263), (264, Hd.o264), (265, Hd.o265), (266, Hd.o266), (267, Hd.o267), (268, Hd.o268), (270, Hd.o270), (271, Hd.o271), (272, Hd.o272)]
def K6 (P : Params) : PySem.W.Frag := [(273, Hd.o273), (274, Hd.o274), (275, Hd.o275), (277, Hd.o277), (278, Hd.o278), (279, Hd.o279), (280, Hd.o280), (281, Hd.o281), (282, Hd.o282), (284, Hd.o284), (285, Hd.o285), (286, Hd.o286), (287, Hd.o287), (288, Hd.o288), (289, Hd.o289), (291, Hd.o291), (292, Hd.o292), (293, Hd.o293), (294, Hd.o294), (295, Hd.o295), (296, Hd.o296), (298, Hd.o298), (299, Hd.o299), (300, Hd.o300), (301, Hd.o301), (302, Hd.o302), (303, Hd.o303), (305, Hd.o305), (306, Hd.o306), (307, Hd.o307), (308, Hd.o308), (309, Hd.o309), (310, Hd.o310), (312, Hd.o312), (313, Hd.o313), (314, Hd.o314), (315, Hd.o315), (316, Hd.o316), (317, Hd.o317), (318, Hd.o318)]
def K7 (P : Params) : PySem.W.Frag := [(319, Hd.o319), (321, Hd.o321), (322, Hd.o322), (323, Hd.o323), (324, Hd.o324), (325, Hd.o325), (326, Hd.o326), (328, Hd.o328), (329, Hd.o329), (330, Hd.o330), (331, Hd.o331), (332, Hd.o332), (333, Hd.o333), (335, Hd.o335), (336, Hd.o336), (337, Hd.o337), (338, Hd.o338), (339, Hd.o339), (340, Hd.o340), (342, Hd.o342), (343, Hd.o343), (344, Hd.o344), (345, Hd.o345), (346, Hd.o346), (347, Hd.o347), (349, Hd.o349), (350, Hd.o350), (351, Hd.o351), (352, Hd.o352), (353, Hd.o353), (354, Hd.o354), (356, Hd.o356), (357, Hd.o357), (358, Hd.o358), (359, Hd.o359), (360, Hd.o360)]
def KF (P : Params) : PySem.W.Frag := K0 P ++ (K1 P ++ (K2 P ++ (K3 P ++ (K4 P ++ (K5 P ++ (K6 P ++ (K7 P)))))))
def KT (P : Params) : PySem.W.Frag := KF P ++ [(304, Hd.o304)]

def ids0 : List Addr := [3, 0, 1, 2, 4, 5, 6, 7, 8, 9, 10, 11, 13, 14, 15, 17, 18, 19, 20, 21, 22, 24, 25, 26, 27, 28, 29, 31, 32, 33, 34, 35, 36, 38, 39, 40, 41, 42, 43, 45]
def ids1 : List Addr := [46, 47, 48, 49, 50, 52, 53, 54, 55, 56, 57, 59, 60, 61, 62, 63, 64, 66, 67, 68, 69, 70, 71, 73, 74, 75, 76, 77, 78, 80, 81, 82, 83, 84, 85, 86, 87, 88, 90, 91]
def ids2 : List Addr := [92, 94, 95, 96, 97, 98, 99, 100, 101, 102, 103, 104, 105, 106, 107, 108, 110, 111, 112, 114, 115, 116, 117, 118, 119, 120, 121, 122, 123, 124, 125, 126, 127, 129, 130, 131, 133, 134, 135, 136]
def ids3 : List Addr := [137, 138, 139, 140, 141, 142, 143, 144, 145, 146, 148, 149, 150, 152, 153, 154, 155, 156, 157, 158, 159, 160, 161, 162, 163, 164, 165, 167, 168, 169, 171, 172, 173, 174, 175, 176, 177, 178, 179, 180]
def ids4 : List Addr := [181, 182, 183, 184, 186, 187, 188, 190, 191, 192, 193, 194, 195, 196, 197, 198, 199, 200, 201, 202, 204, 205, 206, 207, 209, 210, 211, 212, 213, 214, 216, 217, 218, 219, 221, 222, 223, 224, 225, 226]
def ids5 : List Addr := [227, 228, 229, 231, 232, 233, 235, 236, 237, 238, 239, 240, 241, 242, 243, 244, 245, 246, 247, 249, 250, 251, 252, 253, 254, 256, 257, 258, 259, 260, 261, 263, 264, 265, 266, 267, 268, 270, 271, 272]
def ids6 : List Addr := [273, 274, 275, 277, 278, 279, 280, 281, 282, 284, 285, 286, 287, 288, 289, 291, 292, 293, 294, 295, 296, 298, 299, 300, 301, 302, 303, 305, 306, 307, 308, 309, 310, 312, 313, 314, 315, 316, 317, 318]
def ids7 : List Addr := [319, 321, 322, 323, 324, 325, 326, 328, 329, 330, 331, 332, 333, 335, 336, 337, 338, 339, 340, 342, 343, 344, 345, 346, 347, 349, 350, 351, 352, 353, 354, 356, 357, 358, 359, 360, 304]
def ids : List Addr := ids0 ++ (ids1 ++ (ids2 ++ (ids3 ++ (ids4 ++ (ids5 ++ (ids6 ++ (ids7)))))))
theorem ids_is (P : Params) : ids = (KT P).map (fun p => p.1) := by kernel_rfl
def cs : List (Addr × Addr) := [(308, 304)]
def nmT : List PySem.Str := [lamQ "best_counts"]
def TT (c : List (Addr × Addr)) : List (Addr × PySem.Str) := List.zipWith (fun p n => (p.2, n)) c nmT
structure Ctx (w : World) (mg : Str → Option Value) (base : Heap) : Prop where
  X : (KF w.params).In base
  G : base.Ns mainGlobals mg
  TB : ∀ p ∈ cs, TabB base mg p.1 p.2
section
variable {w : World} {mg : Str → Option Value} {base : Heap}
theorem Ctx.no (C : Ctx w mg base) {x : Str} (e : nsIn (KF w.params) mainGlobals x = some none) : mg x = none := PySem.W.mg_none_of C.X C.G e
theorem Ctx.gl (C : Ctx w mg base) {x : Str} {v : Value} (e : nsIn (KF w.params) mainGlobals x = some (some v)) : mg x = some v := PySem.W.mg_of C.X C.G e
theorem exm_named {K : PySem.W.Frag} {S R : Addr} (h1 : PySem.W.subIn K (.ref R) (.type "BaseException") = some true) (h2 : PySem.W.isClsIn K R = true) (h3 : PySem.W.typeIn K (.ref R) = some (.type "type"))
    (h4 : PySem.W.subIn K (.ref S) (.ref R) = some true) : PySem.W.exmOne K (.ref S) (.ref R) = some true := by
  have e1 : (PySem.W.subIn K (.ref R) (.type "BaseException") == some true) = true := by rw [h1] <;> rfl
  have e2 : ((PySem.W.clsIn K R).isSome && PySem.W.typeIn K (.ref R) == some (.type "type")) = true := by
    have z : (PySem.W.clsIn K R).isSome = true := h2
    rw [z, h3] <;> rfl
  show (if (PySem.W.subIn K (.ref R) (.type "BaseException") == some true) = true then (if ((PySem.W.clsIn K R).isSome && PySem.W.typeIn K (.ref R) == some (.type "type")) = true then PySem.W.subIn K (.ref S) (.ref R) else none) else none) = some true
  rw [if_pos e1, if_pos e2]
  exact h4
theorem i_TAB (P : Params) : nsIn (KF P) mainGlobals "TAB" = some (some (.int 9 189)) := by kernel_rfl
theorem i_LINE_FEED (P : Params) : nsIn (KF P) mainGlobals "LINE_FEED" = some (some (.int 10 191)) := by kernel_rfl
theorem i_CARRIAGE_RETURN (P : Params) : nsIn (KF P) mainGlobals "CARRIAGE_RETURN" = some (some (.int 13 193)) := by kernel_rfl
theorem i_BLANK (P : Params) : nsIn (KF P) mainGlobals "BLANK" = some (some (.int 32 195)) := by kernel_rfl
theorem TW (C : Ctx w mg base) : TWh mg := ⟨⟨_, C.gl (i_TAB w.params)⟩, ⟨_, C.gl (i_LINE_FEED w.params)⟩, ⟨_, C.gl (i_CARRIAGE_RETURN w.params)⟩, ⟨_, C.gl (i_BLANK w.params)⟩⟩
theorem i_DIGIT_0 (P : Params) : nsIn (KF P) mainGlobals "DIGIT_0" = some (some (.int 48 201)) := by kernel_rfl
theorem i_DIGIT_9 (P : Params) : nsIn (KF P) mainGlobals "DIGIT_9" = some (some (.int 57 203)) := by kernel_rfl
theorem i_CAPITAL_A (P : Params) : nsIn (KF P) mainGlobals "CAPITAL_A" = some (some (.int 65 205)) := by kernel_rfl
theorem i_CAPITAL_Z (P : Params) : nsIn (KF P) mainGlobals "CAPITAL_Z" = some (some (.int 90 207)) := by kernel_rfl
theorem i_SMALL_A (P : Params) : nsIn (KF P) mainGlobals "SMALL_A" = some (some (.int 97 209)) := by kernel_rfl
theorem i_SMALL_Z (P : Params) : nsIn (KF P) mainGlobals "SMALL_Z" = some (some (.int 122 211)) := by kernel_rfl
theorem TC (C : Ctx w mg base) : TChr mg := ⟨TW C, ⟨_, C.gl (i_DIGIT_0 w.params)⟩, ⟨_, C.gl (i_DIGIT_9 w.params)⟩, ⟨_, C.gl (i_CAPITAL_A w.params)⟩, ⟨_, C.gl (i_CAPITAL_Z w.params)⟩, ⟨_, C.gl (i_SMALL_A w.params)⟩, ⟨_, C.gl (i_SMALL_Z w.params)⟩⟩
theorem g_SMALLEST (P : Params) : nsIn (KF P) mainGlobals "SMALLEST" = some (some (.ref 317)) := by kernel_rfl
theorem l_SMALLEST (P : Params) : (KF P).lookup 317 = some ⟨(.type "tuple"), none, .seq #[(.int (0) 658), (.int (0) 659), (.int (128) 660), (.int (2048) 661), (.int (65536) 662)] 0, #[]⟩ := by kernel_rfl
theorem TS (C : Ctx w mg base) : TupG (KF w.params) mg "SMALLEST" [0, 0, 128, 2048, 65536] := ⟨317, C.gl (g_SMALLEST w.params), fun H => .inr ⟨_, _, _, l_SMALLEST w.params, rfl, rfl, (by show 5 ≤ sizeLine; decide), (.cons ⟨_, rfl⟩ (.cons ⟨_, rfl⟩ (.cons ⟨_, rfl⟩ (.cons ⟨_, rfl⟩ (.cons ⟨_, rfl⟩ .nil)))))⟩⟩
theorem g_LEADS (P : Params) : nsIn (KF P) mainGlobals "LEADS" = some (some (.ref 318)) := by kernel_rfl
theorem l_LEADS (P : Params) : (KF P).lookup 318 = some ⟨(.type "tuple"), none, .seq #[(.int (0) 664), (.int (0) 665), (.int (192) 666), (.int (224) 667), (.int (240) 668)] 0, #[]⟩ := by kernel_rfl
theorem TL (C : Ctx w mg base) : TupG (KF w.params) mg "LEADS" [0, 0, 192, 224, 240] := ⟨318, C.gl (g_LEADS w.params), fun H => .inr ⟨_, _, _, l_LEADS w.params, rfl, rfl, (by show 5 ≤ sizeLine; decide), (.cons ⟨_, rfl⟩ (.cons ⟨_, rfl⟩ (.cons ⟨_, rfl⟩ (.cons ⟨_, rfl⟩ (.cons ⟨_, rfl⟩ .nil)))))⟩⟩
theorem g_Pattern (P : Params) : nsIn (KF P) mainGlobals "Pattern" = some (some (.ref 197)) := by kernel_rfl
theorem pg_CT (P : Params) : PySem.W.plainGet (KF P) 197 Str.empty = true := by kernel_rfl
theorem hd_CT (P : Params) : PySem.W.hasDictIn (KF P) 197 = true := by kernel_rfl
theorem po_CT (P : Params) : PySem.W.plainOver (KF P) 197 = true := by kernel_rfl
theorem sa_CT (P : Params) : findIn (KF P) (.ref 197) "__setattr__" = some (some (.builtin "object.__setattr__")) := by kernel_rfl
theorem n_CT_letters (P : Params) : findIn (KF P) (.ref 197) "letters" = some none := by kernel_rfl
theorem n_CT_levels (P : Params) : findIn (KF P) (.ref 197) "levels" = some none := by kernel_rfl
theorem mk_CT (P : Params) : PySem.W.makesIn (KF P) 197 = true := by kernel_rfl
theorem a_patI (P : Params) : findIn (KF P) (.ref 197) "__init__" = some (some (.ref 194)) := by kernel_rfl
theorem if_CT (P : Params) : PySem.W.isFn (KF P) (.ref 194) = true := by kernel_rfl
theorem kc_CT (P : Params) : keepIn (KF P) (.ref 197) = true := by kernel_rfl
abbrev fd_patI : FuncData := PySem.W.fnOf "__init__" "Pattern.__init__" (defArgs sPatI) (defBody sPatI) (defScope sPatI) .none .none .none (.str "plainlayout.hyphenation" 429) none (.ref 193) .none
theorem l_patI (P : Params) : (KF P).lookup 194 = some ⟨(.type "function"), none, .func fd_patI, #[]⟩ := by kernel_rfl
theorem c_patI (P : Params) : (codeIn (KF P) (.ref 193) "Pattern.__init__") = true := by kernel_rfl
theorem k_patI (P : Params) : keepIn (KF P) (.ref 194) = true := by kernel_rfl
theorem F_patI (P : Params) : Fun (KF P) "__init__" "Pattern.__init__" sPatI 194 fd_patI := fun_mk (l_patI P) (c_patI P) (k_patI P)
theorem b_patI (P : Params) : L2.Binds (KF P) fd_patI ["self", "letters", "levels"] [] := (F_patI P).binds (ps := ["self", "letters", "levels"]) fun _ _ _ _ _ _ us hl => match us, hl with | [_, _, _], _ => rfl
theorem g_Piece (P : Params) : nsIn (KF P) mainGlobals "Piece" = some (some (.ref 242)) := by kernel_rfl
theorem pg_CQ (P : Params) : PySem.W.plainGet (KF P) 242 Str.empty = true := by kernel_rfl
theorem hd_CQ (P : Params) : PySem.W.hasDictIn (KF P) 242 = true := by kernel_rfl
theorem po_CQ (P : Params) : PySem.W.plainOver (KF P) 242 = true := by kernel_rfl
theorem sa_CQ (P : Params) : findIn (KF P) (.ref 242) "__setattr__" = some (some (.builtin "object.__setattr__")) := by kernel_rfl
theorem n_CQ_characters (P : Params) : findIn (KF P) (.ref 242) "characters" = some none := by kernel_rfl
theorem n_CQ_joint (P : Params) : findIn (KF P) (.ref 242) "joint" = some none := by kernel_rfl
theorem mk_CQ (P : Params) : PySem.W.makesIn (KF P) 242 = true := by kernel_rfl
theorem a_pieceI (P : Params) : findIn (KF P) (.ref 242) "__init__" = some (some (.ref 239)) := by kernel_rfl
theorem if_CQ (P : Params) : PySem.W.isFn (KF P) (.ref 239) = true := by kernel_rfl
theorem kc_CQ (P : Params) : keepIn (KF P) (.ref 242) = true := by kernel_rfl
abbrev fd_pieceI : FuncData := PySem.W.fnOf "__init__" "Piece.__init__" (defArgs sPieceI) (defBody sPieceI) (defScope sPieceI) .none .none .none (.str "plainlayout.lines" 500) none (.ref 238) .none
theorem l_pieceI (P : Params) : (KF P).lookup 239 = some ⟨(.type "function"), none, .func fd_pieceI, #[]⟩ := by kernel_rfl
theorem c_pieceI (P : Params) : (codeIn (KF P) (.ref 238) "Piece.__init__") = true := by kernel_rfl
theorem k_pieceI (P : Params) : keepIn (KF P) (.ref 239) = true := by kernel_rfl
theorem F_pieceI (P : Params) : Fun (KF P) "__init__" "Piece.__init__" sPieceI 239 fd_pieceI := fun_mk (l_pieceI P) (c_pieceI P) (k_pieceI P)
theorem b_pieceI (P : Params) : L2.Binds (KF P) fd_pieceI ["self", "characters", "joint"] [] := (F_pieceI P).binds (ps := ["self", "characters", "joint"]) fun _ _ _ _ _ _ us hl => match us, hl with | [_, _, _], _ => rfl
theorem i_POINT (P : Params) : nsIn (KF P) mainGlobals "POINT" = some (some (.int 46 199)) := by kernel_rfl
theorem TP (C : Ctx w mg base) : TPat (KF w.params) mg 197 := ⟨⟨pg_CT _, hd_CT _, po_CT _, sa_CT _⟩, n_CT_letters _, n_CT_levels _, C.gl (g_Pattern w.params), ⟨_, C.gl (i_POINT w.params)⟩⟩
theorem CI_CT (C : Ctx w mg base) : Mk (KF w.params) 197 194 := ⟨mk_CT _, a_patI _, if_CT _, kc_CT _⟩
theorem G_CT (C : Ctx w mg base) : FnOk Hd.pw w (KF w.params) mg base CX0 1 194 fd_patI ["self", "letters", "levels"] (spPatI 197) := ok_patI (F_patI _) (TP C)
abbrev B_patI (C : Ctx w mg base) := b_patI w.params
theorem i_HYPHEN (P : Params) : nsIn (KF P) mainGlobals "HYPHEN" = some (some (.int 45 197)) := by kernel_rfl
theorem s_SPACE_JOINT (P : Params) : nsIn (KF P) mainGlobals "SPACE_JOINT" = some (some (.str "space" 502)) := by kernel_rfl
theorem s_PLAIN_JOINT (P : Params) : nsIn (KF P) mainGlobals "PLAIN_JOINT" = some (some (.str "plain" 504)) := by kernel_rfl
theorem s_HYPHEN_JOINT (P : Params) : nsIn (KF P) mainGlobals "HYPHEN_JOINT" = some (some (.str "hyphen" 506)) := by kernel_rfl
theorem TQ (C : Ctx w mg base) : TPc (KF w.params) mg 242 := ⟨⟨pg_CQ _, hd_CQ _, po_CQ _, sa_CQ _⟩, n_CQ_characters _, n_CQ_joint _, C.gl (g_Piece w.params), ⟨_, C.gl (i_HYPHEN w.params)⟩, ⟨_, C.gl (s_SPACE_JOINT w.params)⟩, ⟨_, C.gl (s_PLAIN_JOINT w.params)⟩, ⟨_, C.gl (s_HYPHEN_JOINT w.params)⟩⟩
theorem CI_CQ (C : Ctx w mg base) : Mk (KF w.params) 242 239 := ⟨mk_CQ _, a_pieceI _, if_CQ _, kc_CQ _⟩
theorem G_CQ (C : Ctx w mg base) : FnOk Hd.pw w (KF w.params) mg base CX0 1 239 fd_pieceI ["self", "characters", "joint"] (spPieceI 242) := ok_pieceI (F_pieceI _) (TQ C)
abbrev B_pieceI (C : Ctx w mg base) := b_pieceI w.params
theorem g_Refusal (P : Params) : nsIn (KF P) mainGlobals "Refusal" = some (some (.ref 101)) := by kernel_rfl
theorem a_refI (P : Params) : findIn (KF P) (.ref 101) "__init__" = some (some (.ref 98)) := by kernel_rfl
abbrev fd_refI : FuncData := PySem.W.fnOf "__init__" "Refusal.__init__" (defArgs sRefI) (defBody sRefI) (defScope sRefI) .none .none .none (.str "plainlayout.refusals" 306) none (.ref 97) .none
theorem l_refI (P : Params) : (KF P).lookup 98 = some ⟨(.type "function"), none, .func fd_refI, #[]⟩ := by kernel_rfl
theorem c_refI (P : Params) : (codeIn (KF P) (.ref 97) "Refusal.__init__") = true := by kernel_rfl
theorem k_refI (P : Params) : keepIn (KF P) (.ref 98) = true := by kernel_rfl
theorem F_refI (P : Params) : Fun (KF P) "__init__" "Refusal.__init__" sRefI 98 fd_refI := fun_mk (l_refI P) (c_refI P) (k_refI P)
theorem b_refI (P : Params) : L2.Binds (KF P) fd_refI ["self", "answer"] [] := (F_refI P).binds (ps := ["self", "answer"]) fun _ _ _ _ _ _ us hl => match us, hl with | [_, _], _ => rfl
theorem rd_CR (P : Params) : PySem.W.readsIn (KF P) 101 (.type "type") = true := by kernel_rfl
theorem ga_CR (P : Params) : PySem.W.specialIn (KF P) (.ref 101) "__getattribute__" = some (some (.builtin "type.__getattribute__")) := by kernel_rfl
theorem fc_CR (P : Params) : PySem.W.findCls (KF P) (.ref 101) (.type "type") "__init__" = some (.val (.ref 98)) := by kernel_rfl
theorem ic_CR (P : Params) : PySem.W.isClsIn (KF P) 101 = true := by kernel_rfl
theorem ex_CR (P : Params) : PySem.W.subIn (KF P) (.ref 101) (.type "BaseException") = some true := by kernel_rfl
theorem ty_CR (P : Params) : PySem.W.typeIn (KF P) (.ref 101) = some (.type "type") := by kernel_rfl
theorem BI (C : Ctx w mg base) : BaseI Hd.pw w (KF w.params) mg base := ⟨101, 98, _, _, C.gl (g_Refusal w.params), ⟨rd_CR _, ga_CR _⟩, ⟨fc_CR _, rfl⟩, k_refI _, b_refI _, ok_refI (F_refI _)⟩
theorem gR (C : Ctx w mg base) : mg "Refusal" = some (.ref 101) := C.gl (g_Refusal w.params)
theorem g_NotPatterns (P : Params) : nsIn (KF P) mainGlobals "NotPatterns" = some (some (.ref 121)) := by kernel_rfl
theorem a_npI (P : Params) : findIn (KF P) (.ref 121) "__init__" = some (some (.ref 118)) := by kernel_rfl
abbrev fd_npI : FuncData := PySem.W.fnOf "__init__" "NotPatterns.__init__" (defArgs sNpI) (defBody sNpI) (defScope sNpI) .none .none .none (.str "plainlayout.refusals" 306) none (.ref 117) .none
theorem l_npI (P : Params) : (KF P).lookup 118 = some ⟨(.type "function"), none, .func fd_npI, #[]⟩ := by kernel_rfl
theorem c_npI (P : Params) : (codeIn (KF P) (.ref 117) "NotPatterns.__init__") = true := by kernel_rfl
theorem k_npI (P : Params) : keepIn (KF P) (.ref 118) = true := by kernel_rfl
theorem F_npI (P : Params) : Fun (KF P) "__init__" "NotPatterns.__init__" sNpI 118 fd_npI := fun_mk (l_npI P) (c_npI P) (k_npI P)
theorem b_npI (P : Params) : L2.Binds (KF P) fd_npI ["self"] [] := (F_npI P).binds (ps := ["self"]) fun _ _ _ _ _ _ us hl => match us, hl with | [_], _ => rfl

def slots_CP : List (Option Value) := [(some (.ref 105)), none, (some (.str "NotPatterns" 337)), (some (.str "NotPatterns" 345)), (some (.builtin "Exception.__new__")), (some (.bool true))]
theorem x_CP (P : Params) : (KF P).lookup 121 = some (excClassObj "NotPatterns" "NotPatterns" 121 120 [(.ref 101)] [.ref 101, .type "Exception", .type "BaseException", .type "object"] true [] [] false none none (some (.ref 105)) none (some (.str "NotPatterns" 337)) (some (.str "NotPatterns" 345)) (some (.bool true)) "Exception.__new__") := by kernel_rfl
theorem sa_CP (P : Params) : findIn (KF P) (.ref 121) "__setattr__" = some (some (.builtin "object.__setattr__")) := by kernel_rfl
theorem ex_CP (P : Params) : PySem.W.subIn (KF P) (.ref 121) (.type "BaseException") = some true := by kernel_rfl
theorem ty_CP (P : Params) : PySem.W.typeIn (KF P) (.ref 121) = some (.type "type") := by kernel_rfl
theorem kc_CP (P : Params) : keepIn (KF P) (.ref 121) = true := by kernel_rfl
theorem no_CP (P : Params) : findIn (KF P) (.ref 121) "answer" = some none := by kernel_rfl
theorem tf_CP (P : Params) : PySem.W.typeIn (KF P) (.ref 118) = some (.type "function") := by kernel_rfl
theorem gt_CP (P : Params) : findIn (KF P) (.ref 121) "__getattribute__" = some (some (.builtin "BaseException.__getattribute__")) := by kernel_rfl
theorem gg_CP (P : Params) : findIn (KF P) (.ref 121) "__getattr__" = some none := by kernel_rfl
theorem hd_CP (P : Params) : PySem.W.hasDictIn (KF P) 121 = true := by kernel_rfl
theorem su_CP (P : Params) : PySem.W.subIn (KF P) (.ref 121) (.ref 101) = some true := by kernel_rfl
theorem E_CP (P : Params) : ErrC (KF P) 121 := ⟨⟨_, _, _, _, _, _, _, _, _, _, _, _, _, _, _, x_CP P, ⟨[101], rfl⟩⟩, sa_CP P, ex_CP P, ty_CP P, kc_CP P⟩
theorem c_CP (P : Params) : Caught (KF P) 121 101 := ⟨⟨gt_CP P, gg_CP P, ex_CP P, hd_CP P⟩, no_CP P, exm_named (ex_CR P) (ic_CR P) (ty_CR P) (su_CP P)⟩
theorem EP (C : Ctx w mg base) : Err Hd.pw w (KF w.params) mg base "NotPatterns" 121 (-21) := ⟨E_CP _, C.gl (g_NotPatterns w.params), 118, _, a_npI _, tf_CP _, b_npI _, ok_npI (F_npI _) (E_CP _) (no_CP _) (BI C)⟩
theorem g_OutOfRange (P : Params) : nsIn (KF P) mainGlobals "OutOfRange" = some (some (.ref 140)) := by kernel_rfl
theorem a_oorI (P : Params) : findIn (KF P) (.ref 140) "__init__" = some (some (.ref 137)) := by kernel_rfl
abbrev fd_oorI : FuncData := PySem.W.fnOf "__init__" "OutOfRange.__init__" (defArgs sOorI) (defBody sOorI) (defScope sOorI) .none .none .none (.str "plainlayout.refusals" 306) none (.ref 136) .none
theorem l_oorI (P : Params) : (KF P).lookup 137 = some ⟨(.type "function"), none, .func fd_oorI, #[]⟩ := by kernel_rfl
theorem c_oorI (P : Params) : (codeIn (KF P) (.ref 136) "OutOfRange.__init__") = true := by kernel_rfl
theorem k_oorI (P : Params) : keepIn (KF P) (.ref 137) = true := by kernel_rfl
theorem F_oorI (P : Params) : Fun (KF P) "__init__" "OutOfRange.__init__" sOorI 137 fd_oorI := fun_mk (l_oorI P) (c_oorI P) (k_oorI P)
theorem b_oorI (P : Params) : L2.Binds (KF P) fd_oorI ["self"] [] := (F_oorI P).binds (ps := ["self"]) fun _ _ _ _ _ _ us hl => match us, hl with | [_], _ => rfl

def slots_CO : List (Option Value) := [(some (.ref 124)), none, (some (.str "OutOfRange" 360)), (some (.str "OutOfRange" 368)), (some (.builtin "Exception.__new__")), (some (.bool true))]
theorem x_CO (P : Params) : (KF P).lookup 140 = some (excClassObj "OutOfRange" "OutOfRange" 140 139 [(.ref 101)] [.ref 101, .type "Exception", .type "BaseException", .type "object"] true [] [] false none none (some (.ref 124)) none (some (.str "OutOfRange" 360)) (some (.str "OutOfRange" 368)) (some (.bool true)) "Exception.__new__") := by kernel_rfl
theorem sa_CO (P : Params) : findIn (KF P) (.ref 140) "__setattr__" = some (some (.builtin "object.__setattr__")) := by kernel_rfl
theorem ex_CO (P : Params) : PySem.W.subIn (KF P) (.ref 140) (.type "BaseException") = some true := by kernel_rfl
theorem ty_CO (P : Params) : PySem.W.typeIn (KF P) (.ref 140) = some (.type "type") := by kernel_rfl
theorem kc_CO (P : Params) : keepIn (KF P) (.ref 140) = true := by kernel_rfl
theorem no_CO (P : Params) : findIn (KF P) (.ref 140) "answer" = some none := by kernel_rfl
theorem tf_CO (P : Params) : PySem.W.typeIn (KF P) (.ref 137) = some (.type "function") := by kernel_rfl
theorem gt_CO (P : Params) : findIn (KF P) (.ref 140) "__getattribute__" = some (some (.builtin "BaseException.__getattribute__")) := by kernel_rfl
theorem gg_CO (P : Params) : findIn (KF P) (.ref 140) "__getattr__" = some none := by kernel_rfl
theorem hd_CO (P : Params) : PySem.W.hasDictIn (KF P) 140 = true := by kernel_rfl
theorem su_CO (P : Params) : PySem.W.subIn (KF P) (.ref 140) (.ref 101) = some true := by kernel_rfl
theorem E_CO (P : Params) : ErrC (KF P) 140 := ⟨⟨_, _, _, _, _, _, _, _, _, _, _, _, _, _, _, x_CO P, ⟨[101], rfl⟩⟩, sa_CO P, ex_CO P, ty_CO P, kc_CO P⟩
theorem c_CO (P : Params) : Caught (KF P) 140 101 := ⟨⟨gt_CO P, gg_CO P, ex_CO P, hd_CO P⟩, no_CO P, exm_named (ex_CR P) (ic_CR P) (ty_CR P) (su_CO P)⟩
theorem EO (C : Ctx w mg base) : Err Hd.pw w (KF w.params) mg base "OutOfRange" 140 (-22) := ⟨E_CO _, C.gl (g_OutOfRange w.params), 137, _, a_oorI _, tf_CO _, b_oorI _, ok_oorI (F_oorI _) (E_CO _) (no_CO _) (BI C)⟩
theorem g_NotUtf8 (P : Params) : nsIn (KF P) mainGlobals "NotUtf8" = some (some (.ref 159)) := by kernel_rfl
theorem a_nuI (P : Params) : findIn (KF P) (.ref 159) "__init__" = some (some (.ref 156)) := by kernel_rfl
abbrev fd_nuI : FuncData := PySem.W.fnOf "__init__" "NotUtf8.__init__" (defArgs sNuI) (defBody sNuI) (defScope sNuI) .none .none .none (.str "plainlayout.refusals" 306) none (.ref 155) .none
theorem l_nuI (P : Params) : (KF P).lookup 156 = some ⟨(.type "function"), none, .func fd_nuI, #[]⟩ := by kernel_rfl
theorem c_nuI (P : Params) : (codeIn (KF P) (.ref 155) "NotUtf8.__init__") = true := by kernel_rfl
theorem k_nuI (P : Params) : keepIn (KF P) (.ref 156) = true := by kernel_rfl
theorem F_nuI (P : Params) : Fun (KF P) "__init__" "NotUtf8.__init__" sNuI 156 fd_nuI := fun_mk (l_nuI P) (c_nuI P) (k_nuI P)
theorem b_nuI (P : Params) : L2.Binds (KF P) fd_nuI ["self"] [] := (F_nuI P).binds (ps := ["self"]) fun _ _ _ _ _ _ us hl => match us, hl with | [_], _ => rfl

def slots_CU : List (Option Value) := [(some (.ref 143)), none, (some (.str "NotUtf8" 383)), (some (.str "NotUtf8" 391)), (some (.builtin "Exception.__new__")), (some (.bool true))]
theorem x_CU (P : Params) : (KF P).lookup 159 = some (excClassObj "NotUtf8" "NotUtf8" 159 158 [(.ref 101)] [.ref 101, .type "Exception", .type "BaseException", .type "object"] true [] [] false none none (some (.ref 143)) none (some (.str "NotUtf8" 383)) (some (.str "NotUtf8" 391)) (some (.bool true)) "Exception.__new__") := by kernel_rfl
theorem sa_CU (P : Params) : findIn (KF P) (.ref 159) "__setattr__" = some (some (.builtin "object.__setattr__")) := by kernel_rfl
theorem ex_CU (P : Params) : PySem.W.subIn (KF P) (.ref 159) (.type "BaseException") = some true := by kernel_rfl
theorem ty_CU (P : Params) : PySem.W.typeIn (KF P) (.ref 159) = some (.type "type") := by kernel_rfl
theorem kc_CU (P : Params) : keepIn (KF P) (.ref 159) = true := by kernel_rfl
theorem no_CU (P : Params) : findIn (KF P) (.ref 159) "answer" = some none := by kernel_rfl
theorem tf_CU (P : Params) : PySem.W.typeIn (KF P) (.ref 156) = some (.type "function") := by kernel_rfl
theorem gt_CU (P : Params) : findIn (KF P) (.ref 159) "__getattribute__" = some (some (.builtin "BaseException.__getattribute__")) := by kernel_rfl
theorem gg_CU (P : Params) : findIn (KF P) (.ref 159) "__getattr__" = some none := by kernel_rfl
theorem hd_CU (P : Params) : PySem.W.hasDictIn (KF P) 159 = true := by kernel_rfl
theorem su_CU (P : Params) : PySem.W.subIn (KF P) (.ref 159) (.ref 101) = some true := by kernel_rfl
theorem E_CU (P : Params) : ErrC (KF P) 159 := ⟨⟨_, _, _, _, _, _, _, _, _, _, _, _, _, _, _, x_CU P, ⟨[101], rfl⟩⟩, sa_CU P, ex_CU P, ty_CU P, kc_CU P⟩
theorem c_CU (P : Params) : Caught (KF P) 159 101 := ⟨⟨gt_CU P, gg_CU P, ex_CU P, hd_CU P⟩, no_CU P, exm_named (ex_CR P) (ic_CR P) (ty_CR P) (su_CU P)⟩
theorem EU (C : Ctx w mg base) : Err Hd.pw w (KF w.params) mg base "NotUtf8" 159 (-24) := ⟨E_CU _, C.gl (g_NotUtf8 w.params), 156, _, a_nuI _, tf_CU _, b_nuI _, ok_nuI (F_nuI _) (E_CU _) (no_CU _) (BI C)⟩
theorem g_NotFitting (P : Params) : nsIn (KF P) mainGlobals "NotFitting" = some (some (.ref 178)) := by kernel_rfl
theorem a_nfI (P : Params) : findIn (KF P) (.ref 178) "__init__" = some (some (.ref 175)) := by kernel_rfl
abbrev fd_nfI : FuncData := PySem.W.fnOf "__init__" "NotFitting.__init__" (defArgs sNfI) (defBody sNfI) (defScope sNfI) .none .none .none (.str "plainlayout.refusals" 306) none (.ref 174) .none
theorem l_nfI (P : Params) : (KF P).lookup 175 = some ⟨(.type "function"), none, .func fd_nfI, #[]⟩ := by kernel_rfl
theorem c_nfI (P : Params) : (codeIn (KF P) (.ref 174) "NotFitting.__init__") = true := by kernel_rfl
theorem k_nfI (P : Params) : keepIn (KF P) (.ref 175) = true := by kernel_rfl
theorem F_nfI (P : Params) : Fun (KF P) "__init__" "NotFitting.__init__" sNfI 175 fd_nfI := fun_mk (l_nfI P) (c_nfI P) (k_nfI P)
theorem b_nfI (P : Params) : L2.Binds (KF P) fd_nfI ["self"] [] := (F_nfI P).binds (ps := ["self"]) fun _ _ _ _ _ _ us hl => match us, hl with | [_], _ => rfl

def slots_CF : List (Option Value) := [(some (.ref 162)), none, (some (.str "NotFitting" 406)), (some (.str "NotFitting" 414)), (some (.builtin "Exception.__new__")), (some (.bool true))]
theorem x_CF (P : Params) : (KF P).lookup 178 = some (excClassObj "NotFitting" "NotFitting" 178 177 [(.ref 101)] [.ref 101, .type "Exception", .type "BaseException", .type "object"] true [] [] false none none (some (.ref 162)) none (some (.str "NotFitting" 406)) (some (.str "NotFitting" 414)) (some (.bool true)) "Exception.__new__") := by kernel_rfl
theorem sa_CF (P : Params) : findIn (KF P) (.ref 178) "__setattr__" = some (some (.builtin "object.__setattr__")) := by kernel_rfl
theorem ex_CF (P : Params) : PySem.W.subIn (KF P) (.ref 178) (.type "BaseException") = some true := by kernel_rfl
theorem ty_CF (P : Params) : PySem.W.typeIn (KF P) (.ref 178) = some (.type "type") := by kernel_rfl
theorem kc_CF (P : Params) : keepIn (KF P) (.ref 178) = true := by kernel_rfl
theorem no_CF (P : Params) : findIn (KF P) (.ref 178) "answer" = some none := by kernel_rfl
theorem tf_CF (P : Params) : PySem.W.typeIn (KF P) (.ref 175) = some (.type "function") := by kernel_rfl
theorem gt_CF (P : Params) : findIn (KF P) (.ref 178) "__getattribute__" = some (some (.builtin "BaseException.__getattribute__")) := by kernel_rfl
theorem gg_CF (P : Params) : findIn (KF P) (.ref 178) "__getattr__" = some none := by kernel_rfl
theorem hd_CF (P : Params) : PySem.W.hasDictIn (KF P) 178 = true := by kernel_rfl
theorem su_CF (P : Params) : PySem.W.subIn (KF P) (.ref 178) (.ref 101) = some true := by kernel_rfl
theorem E_CF (P : Params) : ErrC (KF P) 178 := ⟨⟨_, _, _, _, _, _, _, _, _, _, _, _, _, _, _, x_CF P, ⟨[101], rfl⟩⟩, sa_CF P, ex_CF P, ty_CF P, kc_CF P⟩
theorem c_CF (P : Params) : Caught (KF P) 178 101 := ⟨⟨gt_CF P, gg_CF P, ex_CF P, hd_CF P⟩, no_CF P, exm_named (ex_CR P) (ic_CR P) (ty_CR P) (su_CF P)⟩
theorem EF (C : Ctx w mg base) : Err Hd.pw w (KF w.params) mg base "NotFitting" 178 (-33) := ⟨E_CF _, C.gl (g_NotFitting w.params), 175, _, a_nfI _, tf_CF _, b_nfI _, ok_nfI (F_nfI _) (E_CF _) (no_CF _) (BI C)⟩
abbrev fd_white : FuncData := PySem.W.fnOf "is_white_space" "is_white_space" (defArgs sWhite) (defBody sWhite) (defScope sWhite) .none .none .none (.str "plainlayout.characters" 187) none (.ref 27) .none
theorem l_white (P : Params) : (KF P).lookup 28 = some ⟨(.type "function"), none, .func fd_white, #[]⟩ := by kernel_rfl
theorem c_white (P : Params) : (codeIn (KF P) (.ref 27) "is_white_space") = true := by kernel_rfl
theorem k_white (P : Params) : keepIn (KF P) (.ref 28) = true := by kernel_rfl
theorem F_white (P : Params) : Fun (KF P) "is_white_space" "is_white_space" sWhite 28 fd_white := fun_mk (l_white P) (c_white P) (k_white P)
theorem b_white (P : Params) : L2.Binds (KF P) fd_white ["code"] [] := (F_white P).binds (ps := ["code"]) fun _ _ _ _ _ _ us hl => match us, hl with | [_], _ => rfl
theorem g_is_white_space (P : Params) : nsIn (KF P) mainGlobals "is_white_space" = some (some (.ref 28)) := by kernel_rfl
def D_white (C : Ctx w mg base) := Def.mk (P := Hd.pw) (w := w) (K := KF w.params) (mg := mg) (base := base) (k := 1) (C.gl (g_is_white_space w.params)) (F_white w.params) (b_white w.params) (ok_white (P := Hd.pw) (w := w) (base := base) (F_white w.params) (TW C)) (by decide)
abbrev fd_isChar : FuncData := PySem.W.fnOf "is_character" "is_character" (defArgs sIsChar) (defBody sIsChar) (defScope sIsChar) .none .none .none (.str "plainlayout.characters" 187) none (.ref 20) .none
theorem l_isChar (P : Params) : (KF P).lookup 21 = some ⟨(.type "function"), none, .func fd_isChar, #[]⟩ := by kernel_rfl
theorem c_isChar (P : Params) : (codeIn (KF P) (.ref 20) "is_character") = true := by kernel_rfl
theorem k_isChar (P : Params) : keepIn (KF P) (.ref 21) = true := by kernel_rfl
theorem F_isChar (P : Params) : Fun (KF P) "is_character" "is_character" sIsChar 21 fd_isChar := fun_mk (l_isChar P) (c_isChar P) (k_isChar P)
theorem b_isChar (P : Params) : L2.Binds (KF P) fd_isChar ["code"] [] := (F_isChar P).binds (ps := ["code"]) fun _ _ _ _ _ _ us hl => match us, hl with | [_], _ => rfl
theorem g_is_character (P : Params) : nsIn (KF P) mainGlobals "is_character" = some (some (.ref 21)) := by kernel_rfl
theorem i_GREATEST_CHARACTER (P : Params) : nsIn (KF P) mainGlobals "GREATEST_CHARACTER" = some (some (.int 1114111 213)) := by kernel_rfl
theorem i_FIRST_SURROGATE (P : Params) : nsIn (KF P) mainGlobals "FIRST_SURROGATE" = some (some (.int 55296 215)) := by kernel_rfl
theorem i_LAST_SURROGATE (P : Params) : nsIn (KF P) mainGlobals "LAST_SURROGATE" = some (some (.int 57343 217)) := by kernel_rfl
def D_isChar (C : Ctx w mg base) := Def.mk (P := Hd.pw) (w := w) (K := KF w.params) (mg := mg) (base := base) (k := 1) (C.gl (g_is_character w.params)) (F_isChar w.params) (b_isChar w.params) (ok_isChar (P := Hd.pw) (w := w) (base := base) (F_isChar w.params) ⟨_, C.gl (i_GREATEST_CHARACTER w.params)⟩ ⟨_, C.gl (i_FIRST_SURROGATE w.params)⟩ ⟨_, C.gl (i_LAST_SURROGATE w.params)⟩) (by decide)
abbrev fd_digit : FuncData := PySem.W.fnOf "is_digit" "is_digit" (defArgs sDigit) (defBody sDigit) (defScope sDigit) .none .none .none (.str "plainlayout.characters" 187) none (.ref 34) .none
theorem l_digit (P : Params) : (KF P).lookup 35 = some ⟨(.type "function"), none, .func fd_digit, #[]⟩ := by kernel_rfl
theorem c_digit (P : Params) : (codeIn (KF P) (.ref 34) "is_digit") = true := by kernel_rfl
theorem k_digit (P : Params) : keepIn (KF P) (.ref 35) = true := by kernel_rfl
theorem F_digit (P : Params) : Fun (KF P) "is_digit" "is_digit" sDigit 35 fd_digit := fun_mk (l_digit P) (c_digit P) (k_digit P)
theorem b_digit (P : Params) : L2.Binds (KF P) fd_digit ["code"] [] := (F_digit P).binds (ps := ["code"]) fun _ _ _ _ _ _ us hl => match us, hl with | [_], _ => rfl
theorem g_is_digit (P : Params) : nsIn (KF P) mainGlobals "is_digit" = some (some (.ref 35)) := by kernel_rfl
def D_digit (C : Ctx w mg base) := Def.mk (P := Hd.pw) (w := w) (K := KF w.params) (mg := mg) (base := base) (k := 1) (C.gl (g_is_digit w.params)) (F_digit w.params) (b_digit w.params) (ok_digit (P := Hd.pw) (w := w) (base := base) (F_digit w.params) (TC C)) (by decide)
abbrev fd_cap : FuncData := PySem.W.fnOf "is_capital_letter" "is_capital_letter" (defArgs sCap) (defBody sCap) (defScope sCap) .none .none .none (.str "plainlayout.characters" 187) none (.ref 41) .none
theorem l_cap (P : Params) : (KF P).lookup 42 = some ⟨(.type "function"), none, .func fd_cap, #[]⟩ := by kernel_rfl
theorem c_cap (P : Params) : (codeIn (KF P) (.ref 41) "is_capital_letter") = true := by kernel_rfl
theorem k_cap (P : Params) : keepIn (KF P) (.ref 42) = true := by kernel_rfl
theorem F_cap (P : Params) : Fun (KF P) "is_capital_letter" "is_capital_letter" sCap 42 fd_cap := fun_mk (l_cap P) (c_cap P) (k_cap P)
theorem b_cap (P : Params) : L2.Binds (KF P) fd_cap ["code"] [] := (F_cap P).binds (ps := ["code"]) fun _ _ _ _ _ _ us hl => match us, hl with | [_], _ => rfl
theorem g_is_capital_letter (P : Params) : nsIn (KF P) mainGlobals "is_capital_letter" = some (some (.ref 42)) := by kernel_rfl
def D_cap (C : Ctx w mg base) := Def.mk (P := Hd.pw) (w := w) (K := KF w.params) (mg := mg) (base := base) (k := 1) (C.gl (g_is_capital_letter w.params)) (F_cap w.params) (b_cap w.params) (ok_cap (P := Hd.pw) (w := w) (base := base) (F_cap w.params) (TC C)) (by decide)
abbrev fd_small : FuncData := PySem.W.fnOf "is_small_letter" "is_small_letter" (defArgs sSmall) (defBody sSmall) (defScope sSmall) .none .none .none (.str "plainlayout.characters" 187) none (.ref 48) .none
theorem l_small (P : Params) : (KF P).lookup 49 = some ⟨(.type "function"), none, .func fd_small, #[]⟩ := by kernel_rfl
theorem c_small (P : Params) : (codeIn (KF P) (.ref 48) "is_small_letter") = true := by kernel_rfl
theorem k_small (P : Params) : keepIn (KF P) (.ref 49) = true := by kernel_rfl
theorem F_small (P : Params) : Fun (KF P) "is_small_letter" "is_small_letter" sSmall 49 fd_small := fun_mk (l_small P) (c_small P) (k_small P)
theorem b_small (P : Params) : L2.Binds (KF P) fd_small ["code"] [] := (F_small P).binds (ps := ["code"]) fun _ _ _ _ _ _ us hl => match us, hl with | [_], _ => rfl
theorem g_is_small_letter (P : Params) : nsIn (KF P) mainGlobals "is_small_letter" = some (some (.ref 49)) := by kernel_rfl
def D_small (C : Ctx w mg base) := Def.mk (P := Hd.pw) (w := w) (K := KF w.params) (mg := mg) (base := base) (k := 1) (C.gl (g_is_small_letter w.params)) (F_small w.params) (b_small w.params) (ok_small (P := Hd.pw) (w := w) (base := base) (F_small w.params) (TC C)) (by decide)
abbrev fd_letter : FuncData := PySem.W.fnOf "is_letter" "is_letter" (defArgs sLetter) (defBody sLetter) (defScope sLetter) .none .none .none (.str "plainlayout.characters" 187) none (.ref 55) .none
theorem l_letter (P : Params) : (KF P).lookup 56 = some ⟨(.type "function"), none, .func fd_letter, #[]⟩ := by kernel_rfl
theorem c_letter (P : Params) : (codeIn (KF P) (.ref 55) "is_letter") = true := by kernel_rfl
theorem k_letter (P : Params) : keepIn (KF P) (.ref 56) = true := by kernel_rfl
theorem F_letter (P : Params) : Fun (KF P) "is_letter" "is_letter" sLetter 56 fd_letter := fun_mk (l_letter P) (c_letter P) (k_letter P)
theorem b_letter (P : Params) : L2.Binds (KF P) fd_letter ["code"] [] := (F_letter P).binds (ps := ["code"]) fun _ _ _ _ _ _ us hl => match us, hl with | [_], _ => rfl
theorem g_is_letter (P : Params) : nsIn (KF P) mainGlobals "is_letter" = some (some (.ref 56)) := by kernel_rfl
def D_letter (C : Ctx w mg base) := Def.mk (P := Hd.pw) (w := w) (K := KF w.params) (mg := mg) (base := base) (k := 2) (C.gl (g_is_letter w.params)) (F_letter w.params) (b_letter w.params) (ok_letter (F_letter w.params) (D_small C) (D_cap C)) (by decide)
abbrev fd_lower : FuncData := PySem.W.fnOf "to_small_letter" "to_small_letter" (defArgs sLower) (defBody sLower) (defScope sLower) .none .none .none (.str "plainlayout.characters" 187) none (.ref 62) .none
theorem l_lower (P : Params) : (KF P).lookup 63 = some ⟨(.type "function"), none, .func fd_lower, #[]⟩ := by kernel_rfl
theorem c_lower (P : Params) : (codeIn (KF P) (.ref 62) "to_small_letter") = true := by kernel_rfl
theorem k_lower (P : Params) : keepIn (KF P) (.ref 63) = true := by kernel_rfl
theorem F_lower (P : Params) : Fun (KF P) "to_small_letter" "to_small_letter" sLower 63 fd_lower := fun_mk (l_lower P) (c_lower P) (k_lower P)
theorem b_lower (P : Params) : L2.Binds (KF P) fd_lower ["letter"] [] := (F_lower P).binds (ps := ["letter"]) fun _ _ _ _ _ _ us hl => match us, hl with | [_], _ => rfl
theorem g_to_small_letter (P : Params) : nsIn (KF P) mainGlobals "to_small_letter" = some (some (.ref 63)) := by kernel_rfl
def D_lower (C : Ctx w mg base) := Def.mk (P := Hd.pw) (w := w) (K := KF w.params) (mg := mg) (base := base) (k := 2) (C.gl (g_to_small_letter w.params)) (F_lower w.params) (b_lower w.params) (ok_lower (F_lower w.params) (TC C) (D_cap C)) (by decide)
abbrev fd_words : FuncData := PySem.W.fnOf "words_of" "words_of" (defArgs sWords) (defBody sWords) (defScope sWords) .none .none .none (.str "plainlayout.characters" 187) none (.ref 69) .none
theorem l_words (P : Params) : (KF P).lookup 70 = some ⟨(.type "function"), none, .func fd_words, #[]⟩ := by kernel_rfl
theorem c_words (P : Params) : (codeIn (KF P) (.ref 69) "words_of") = true := by kernel_rfl
theorem k_words (P : Params) : keepIn (KF P) (.ref 70) = true := by kernel_rfl
theorem F_words (P : Params) : Fun (KF P) "words_of" "words_of" sWords 70 fd_words := fun_mk (l_words P) (c_words P) (k_words P)
theorem b_words (P : Params) : L2.Binds (KF P) fd_words ["text"] [] := (F_words P).binds (ps := ["text"]) fun _ _ _ _ _ _ us hl => match us, hl with | [_], _ => rfl
theorem g_words_of (P : Params) : nsIn (KF P) mainGlobals "words_of" = some (some (.ref 70)) := by kernel_rfl
def D_words (C : Ctx w mg base) := Def.mk (P := Hd.pw) (w := w) (K := KF w.params) (mg := mg) (base := base) (k := 4) (C.gl (g_words_of w.params)) (F_words w.params) (b_words w.params) (ok_words (F_words w.params) (D_white C)) (by decide)
abbrev fd_pat : FuncData := PySem.W.fnOf "pattern_of" "pattern_of" (defArgs sPat) (defBody sPat) (defScope sPat) .none .none .none (.str "plainlayout.hyphenation" 429) none (.ref 212) .none
theorem l_pat (P : Params) : (KF P).lookup 213 = some ⟨(.type "function"), none, .func fd_pat, #[]⟩ := by kernel_rfl
theorem c_pat (P : Params) : (codeIn (KF P) (.ref 212) "pattern_of") = true := by kernel_rfl
theorem k_pat (P : Params) : keepIn (KF P) (.ref 213) = true := by kernel_rfl
theorem F_pat (P : Params) : Fun (KF P) "pattern_of" "pattern_of" sPat 213 fd_pat := fun_mk (l_pat P) (c_pat P) (k_pat P)
theorem b_pat (P : Params) : L2.Binds (KF P) fd_pat ["word"] [] := (F_pat P).binds (ps := ["word"]) fun _ _ _ _ _ _ us hl => match us, hl with | [_], _ => rfl
theorem g_pattern_of (P : Params) : nsIn (KF P) mainGlobals "pattern_of" = some (some (.ref 213)) := by kernel_rfl
def D_pat (C : Ctx w mg base) := Def.mk (P := Hd.pw) (w := w) (K := KF w.params) (mg := mg) (base := base) (k := 8) (C.gl (g_pattern_of w.params)) (F_pat w.params) (b_pat w.params) (ok_pat (F_pat w.params) (TP C) (TC C) (CI_CT C) (G_CT C) (B_patI C) (EP C) (D_digit C) (D_small C)) (by decide)
abbrev fd_pats : FuncData := PySem.W.fnOf "patterns_of" "patterns_of" (defArgs sPats) (defBody sPats) (defScope sPats) .none .none .none (.str "plainlayout.hyphenation" 429) none (.ref 205) .none
theorem l_pats (P : Params) : (KF P).lookup 206 = some ⟨(.type "function"), none, .func fd_pats, #[]⟩ := by kernel_rfl
theorem c_pats (P : Params) : (codeIn (KF P) (.ref 205) "patterns_of") = true := by kernel_rfl
theorem k_pats (P : Params) : keepIn (KF P) (.ref 206) = true := by kernel_rfl
theorem F_pats (P : Params) : Fun (KF P) "patterns_of" "patterns_of" sPats 206 fd_pats := fun_mk (l_pats P) (c_pats P) (k_pats P)
theorem b_pats (P : Params) : L2.Binds (KF P) fd_pats ["text"] [] := (F_pats P).binds (ps := ["text"]) fun _ _ _ _ _ _ us hl => match us, hl with | [_], _ => rfl
theorem g_patterns_of (P : Params) : nsIn (KF P) mainGlobals "patterns_of" = some (some (.ref 206)) := by kernel_rfl
def D_pats (C : Ctx w mg base) := Def.mk (P := Hd.pw) (w := w) (K := KF w.params) (mg := mg) (base := base) (k := 12) (C.gl (g_patterns_of w.params)) (F_pats w.params) (b_pats w.params) (ok_pats (F_pats w.params) (D_words C) (D_pat C)) (by decide)
abbrev fd_size : FuncData := PySem.W.fnOf "sequence_size" "sequence_size" (defArgs sSize) (defBody sSize) (defScope sSize) .none .none .none (.str "plainlayout.utf8" 656) none (.ref 331) .none
theorem l_size (P : Params) : (KF P).lookup 332 = some ⟨(.type "function"), none, .func fd_size, #[]⟩ := by kernel_rfl
theorem c_size (P : Params) : (codeIn (KF P) (.ref 331) "sequence_size") = true := by kernel_rfl
theorem k_size (P : Params) : keepIn (KF P) (.ref 332) = true := by kernel_rfl
theorem F_size (P : Params) : Fun (KF P) "sequence_size" "sequence_size" sSize 332 fd_size := fun_mk (l_size P) (c_size P) (k_size P)
theorem b_size (P : Params) : L2.Binds (KF P) fd_size ["lead"] [] := (F_size P).binds (ps := ["lead"]) fun _ _ _ _ _ _ us hl => match us, hl with | [_], _ => rfl
theorem g_sequence_size (P : Params) : nsIn (KF P) mainGlobals "sequence_size" = some (some (.ref 332)) := by kernel_rfl
def D_size (C : Ctx w mg base) := Def.mk (P := Hd.pw) (w := w) (K := KF w.params) (mg := mg) (base := base) (k := 6) (C.gl (g_sequence_size w.params)) (F_size w.params) (b_size w.params) (ok_size (F_size w.params) (EU C)) (by decide)
abbrev fd_seq : FuncData := PySem.W.fnOf "read_sequence" "read_sequence" (defArgs sSeq) (defBody sSeq) (defScope sSeq) .none .none .none (.str "plainlayout.utf8" 656) none (.ref 338) .none
theorem l_seq (P : Params) : (KF P).lookup 339 = some ⟨(.type "function"), none, .func fd_seq, #[]⟩ := by kernel_rfl
theorem c_seq (P : Params) : (codeIn (KF P) (.ref 338) "read_sequence") = true := by kernel_rfl
theorem k_seq (P : Params) : keepIn (KF P) (.ref 339) = true := by kernel_rfl
theorem F_seq (P : Params) : Fun (KF P) "read_sequence" "read_sequence" sSeq 339 fd_seq := fun_mk (l_seq P) (c_seq P) (k_seq P)
theorem b_seq (P : Params) : L2.Binds (KF P) fd_seq ["octets", "size"] [] := (F_seq P).binds (ps := ["octets", "size"]) fun _ _ _ _ _ _ us hl => match us, hl with | [_, _], _ => rfl
theorem g_read_sequence (P : Params) : nsIn (KF P) mainGlobals "read_sequence" = some (some (.ref 339)) := by kernel_rfl
theorem n_len (P : Params) : nsIn (KF P) mainGlobals "len" = some none := by kernel_rfl
def D_seq (C : Ctx w mg base) := Def.mk (P := Hd.pw) (w := w) (K := KF w.params) (mg := mg) (base := base) (k := 6) (C.gl (g_read_sequence w.params)) (F_seq w.params) (b_seq w.params) (ok_seq (F_seq w.params) (EU C) (C.no (n_len w.params)) (D_isChar C) (TL C) (TS C)) (by decide)
abbrev fd_read : FuncData := PySem.W.fnOf "read_utf8" "read_utf8" (defArgs sRead) (defBody sRead) (defScope sRead) .none .none .none (.str "plainlayout.utf8" 656) none (.ref 324) .none
theorem l_read (P : Params) : (KF P).lookup 325 = some ⟨(.type "function"), none, .func fd_read, #[]⟩ := by kernel_rfl
theorem c_read (P : Params) : (codeIn (KF P) (.ref 324) "read_utf8") = true := by kernel_rfl
theorem k_read (P : Params) : keepIn (KF P) (.ref 325) = true := by kernel_rfl
theorem F_read (P : Params) : Fun (KF P) "read_utf8" "read_utf8" sRead 325 fd_read := fun_mk (l_read P) (c_read P) (k_read P)
theorem b_read (P : Params) : L2.Binds (KF P) fd_read ["octets"] [] := (F_read P).binds (ps := ["octets"]) fun _ _ _ _ _ _ us hl => match us, hl with | [_], _ => rfl
theorem g_read_utf8 (P : Params) : nsIn (KF P) mainGlobals "read_utf8" = some (some (.ref 325)) := by kernel_rfl
def D_read (C : Ctx w mg base) := Def.mk (P := Hd.pw) (w := w) (K := KF w.params) (mg := mg) (base := base) (k := 10) (C.gl (g_read_utf8 w.params)) (F_read w.params) (b_read w.params) (ok_read (F_read w.params) (C.no (n_len w.params)) (D_size C) (D_seq C)) (by decide)
abbrev fd_lev : FuncData := PySem.W.fnOf "levels_in" "levels_in" (defArgs sLev) (defBody sLev) (defScope sLev) .none .none .none (.str "plainlayout.hyphenation" 429) none (.ref 224) .none
theorem l_lev (P : Params) : (KF P).lookup 225 = some ⟨(.type "function"), none, .func fd_lev, #[]⟩ := by kernel_rfl
theorem c_lev (P : Params) : (codeIn (KF P) (.ref 224) "levels_in") = true := by kernel_rfl
theorem k_lev (P : Params) : keepIn (KF P) (.ref 225) = true := by kernel_rfl
theorem F_lev (P : Params) : Fun (KF P) "levels_in" "levels_in" sLev 225 fd_lev := fun_mk (l_lev P) (c_lev P) (k_lev P)
theorem b_lev (P : Params) : L2.Binds (KF P) fd_lev ["patterns", "dotted"] [] := (F_lev P).binds (ps := ["patterns", "dotted"]) fun _ _ _ _ _ _ us hl => match us, hl with | [_, _], _ => rfl
theorem g_levels_in (P : Params) : nsIn (KF P) mainGlobals "levels_in" = some (some (.ref 225)) := by kernel_rfl
theorem n_range (P : Params) : nsIn (KF P) mainGlobals "range" = some none := by kernel_rfl
theorem n_max (P : Params) : nsIn (KF P) mainGlobals "max" = some none := by kernel_rfl
def D_lev (C : Ctx w mg base) := Def.mk (P := Hd.pw) (w := w) (K := KF w.params) (mg := mg) (base := base) (k := 2) (C.gl (g_levels_in w.params)) (F_lev w.params) (b_lev w.params) (ok_lev (P := Hd.pw) (w := w) (base := base) (F_lev w.params) (TP C) (C.no (n_len w.params)) (C.no (n_range w.params)) (C.no (n_max w.params))) (by decide)
abbrev fd_pos : FuncData := PySem.W.fnOf "positions_of" "positions_of" (defArgs sPos) (defBody sPos) (defScope sPos) .none .none .none (.str "plainlayout.hyphenation" 429) none (.ref 217) .none
theorem l_pos (P : Params) : (KF P).lookup 218 = some ⟨(.type "function"), none, .func fd_pos, #[]⟩ := by kernel_rfl
theorem c_pos (P : Params) : (codeIn (KF P) (.ref 217) "positions_of") = true := by kernel_rfl
theorem k_pos (P : Params) : keepIn (KF P) (.ref 218) = true := by kernel_rfl
theorem F_pos (P : Params) : Fun (KF P) "positions_of" "positions_of" sPos 218 fd_pos := fun_mk (l_pos P) (c_pos P) (k_pos P)
theorem b_pos (P : Params) : L2.Binds (KF P) fd_pos ["patterns", "word"] [] := (F_pos P).binds (ps := ["patterns", "word"]) fun _ _ _ _ _ _ us hl => match us, hl with | [_, _], _ => rfl
theorem g_positions_of (P : Params) : nsIn (KF P) mainGlobals "positions_of" = some (some (.ref 218)) := by kernel_rfl
theorem n_all (P : Params) : nsIn (KF P) mainGlobals "all" = some none := by kernel_rfl
theorem i_LEAST_LETTERS (P : Params) : nsIn (KF P) mainGlobals "LEAST_LETTERS" = some (some (.int 2 431)) := by kernel_rfl
def D_pos (C : Ctx w mg base) := Def.mk (P := Hd.pw) (w := w) (K := KF w.params) (mg := mg) (base := base) (k := 6) (C.gl (g_positions_of w.params)) (F_pos w.params) (b_pos w.params) (ok_pos (F_pos w.params) (TP C) (C.no (n_all w.params)) (C.no (n_len w.params)) (C.no (n_range w.params)) ⟨_, C.gl (i_LEAST_LETTERS w.params)⟩ (D_letter C) (D_lower C) (D_lev C)) (by decide)
abbrev fd_parts : FuncData := PySem.W.fnOf "parts_of" "parts_of" (defArgs sParts) (defBody sParts) (defScope sParts) .none .none .none (.str "plainlayout.lines" 500) none (.ref 266) .none
theorem l_parts (P : Params) : (KF P).lookup 267 = some ⟨(.type "function"), none, .func fd_parts, #[]⟩ := by kernel_rfl
theorem c_parts (P : Params) : (codeIn (KF P) (.ref 266) "parts_of") = true := by kernel_rfl
theorem k_parts (P : Params) : keepIn (KF P) (.ref 267) = true := by kernel_rfl
theorem F_parts (P : Params) : Fun (KF P) "parts_of" "parts_of" sParts 267 fd_parts := fun_mk (l_parts P) (c_parts P) (k_parts P)
theorem b_parts (P : Params) : L2.Binds (KF P) fd_parts ["word"] [] := (F_parts P).binds (ps := ["word"]) fun _ _ _ _ _ _ us hl => match us, hl with | [_], _ => rfl
theorem g_parts_of (P : Params) : nsIn (KF P) mainGlobals "parts_of" = some (some (.ref 267)) := by kernel_rfl
def D_parts (C : Ctx w mg base) := Def.mk (P := Hd.pw) (w := w) (K := KF w.params) (mg := mg) (base := base) (k := 2) (C.gl (g_parts_of w.params)) (F_parts w.params) (b_parts w.params) (ok_parts (P := Hd.pw) (w := w) (base := base) (F_parts w.params) (TQ C) (C.no (n_len w.params)) (C.no (n_range w.params))) (by decide)
abbrev fd_pcPart : FuncData := PySem.W.fnOf "pieces_of_part" "pieces_of_part" (defArgs sPcPart) (defBody sPcPart) (defScope sPcPart) .none .none .none (.str "plainlayout.lines" 500) none (.ref 273) .none
theorem l_pcPart (P : Params) : (KF P).lookup 274 = some ⟨(.type "function"), none, .func fd_pcPart, #[]⟩ := by kernel_rfl
theorem c_pcPart (P : Params) : (codeIn (KF P) (.ref 273) "pieces_of_part") = true := by kernel_rfl
theorem k_pcPart (P : Params) : keepIn (KF P) (.ref 274) = true := by kernel_rfl
theorem F_pcPart (P : Params) : Fun (KF P) "pieces_of_part" "pieces_of_part" sPcPart 274 fd_pcPart := fun_mk (l_pcPart P) (c_pcPart P) (k_pcPart P)
theorem b_pcPart (P : Params) : L2.Binds (KF P) fd_pcPart ["patterns", "part", "last_joint"] [] := (F_pcPart P).binds (ps := ["patterns", "part", "last_joint"]) fun _ _ _ _ _ _ us hl => match us, hl with | [_, _, _], _ => rfl
theorem g_pieces_of_part (P : Params) : nsIn (KF P) mainGlobals "pieces_of_part" = some (some (.ref 274)) := by kernel_rfl
def D_pcPart (C : Ctx w mg base) := Def.mk (P := Hd.pw) (w := w) (K := KF w.params) (mg := mg) (base := base) (k := 8) (C.gl (g_pieces_of_part w.params)) (F_pcPart w.params) (b_pcPart w.params) (ok_pcPart (F_pcPart w.params) (TQ C) (CI_CQ C) (G_CQ C) (B_pieceI C) (D_pos C)) (by decide)
abbrev fd_pcWord : FuncData := PySem.W.fnOf "pieces_of_word" "pieces_of_word" (defArgs sPcWord) (defBody sPcWord) (defScope sPcWord) .none .none .none (.str "plainlayout.lines" 500) none (.ref 259) .none
theorem l_pcWord (P : Params) : (KF P).lookup 260 = some ⟨(.type "function"), none, .func fd_pcWord, #[]⟩ := by kernel_rfl
theorem c_pcWord (P : Params) : (codeIn (KF P) (.ref 259) "pieces_of_word") = true := by kernel_rfl
theorem k_pcWord (P : Params) : keepIn (KF P) (.ref 260) = true := by kernel_rfl
theorem F_pcWord (P : Params) : Fun (KF P) "pieces_of_word" "pieces_of_word" sPcWord 260 fd_pcWord := fun_mk (l_pcWord P) (c_pcWord P) (k_pcWord P)
theorem b_pcWord (P : Params) : L2.Binds (KF P) fd_pcWord ["patterns", "word"] [] := (F_pcWord P).binds (ps := ["patterns", "word"]) fun _ _ _ _ _ _ us hl => match us, hl with | [_, _], _ => rfl
theorem g_pieces_of_word (P : Params) : nsIn (KF P) mainGlobals "pieces_of_word" = some (some (.ref 260)) := by kernel_rfl
def D_pcWord (C : Ctx w mg base) := Def.mk (P := Hd.pw) (w := w) (K := KF w.params) (mg := mg) (base := base) (k := 10) (C.gl (g_pieces_of_word w.params)) (F_pcWord w.params) (b_pcWord w.params) (ok_pcWord (F_pcWord w.params) (TQ C) (D_parts C) (D_pcPart C)) (by decide)
abbrev fd_pieces : FuncData := PySem.W.fnOf "pieces_of" "pieces_of" (defArgs sPieces) (defBody sPieces) (defScope sPieces) .none .none .none (.str "plainlayout.lines" 500) none (.ref 252) .none
theorem l_pieces (P : Params) : (KF P).lookup 253 = some ⟨(.type "function"), none, .func fd_pieces, #[]⟩ := by kernel_rfl
theorem c_pieces (P : Params) : (codeIn (KF P) (.ref 252) "pieces_of") = true := by kernel_rfl
theorem k_pieces (P : Params) : keepIn (KF P) (.ref 253) = true := by kernel_rfl
theorem F_pieces (P : Params) : Fun (KF P) "pieces_of" "pieces_of" sPieces 253 fd_pieces := fun_mk (l_pieces P) (c_pieces P) (k_pieces P)
theorem b_pieces (P : Params) : L2.Binds (KF P) fd_pieces ["patterns", "text"] [] := (F_pieces P).binds (ps := ["patterns", "text"]) fun _ _ _ _ _ _ us hl => match us, hl with | [_, _], _ => rfl
theorem g_pieces_of (P : Params) : nsIn (KF P) mainGlobals "pieces_of" = some (some (.ref 253)) := by kernel_rfl
def D_pieces (C : Ctx w mg base) := Def.mk (P := Hd.pw) (w := w) (K := KF w.params) (mg := mg) (base := base) (k := 12) (C.gl (g_pieces_of w.params)) (F_pieces w.params) (b_pieces w.params) (ok_pieces (F_pieces w.params) (TQ C) (D_words C) (D_pcWord C)) (by decide)
abbrev fd_line : FuncData := PySem.W.fnOf "line_text" "line_text" (defArgs sLine) (defBody sLine) (defScope sLine) .none .none .none (.str "plainlayout.lines" 500) none (.ref 280) .none
theorem l_line (P : Params) : (KF P).lookup 281 = some ⟨(.type "function"), none, .func fd_line, #[]⟩ := by kernel_rfl
theorem c_line (P : Params) : (codeIn (KF P) (.ref 280) "line_text") = true := by kernel_rfl
theorem k_line (P : Params) : keepIn (KF P) (.ref 281) = true := by kernel_rfl
theorem F_line (P : Params) : Fun (KF P) "line_text" "line_text" sLine 281 fd_line := fun_mk (l_line P) (c_line P) (k_line P)
theorem b_line (P : Params) : L2.Binds (KF P) fd_line ["pieces"] [] := (F_line P).binds (ps := ["pieces"]) fun _ _ _ _ _ _ us hl => match us, hl with | [_], _ => rfl
theorem g_line_text (P : Params) : nsIn (KF P) mainGlobals "line_text" = some (some (.ref 281)) := by kernel_rfl
def D_line (C : Ctx w mg base) := Def.mk (P := Hd.pw) (w := w) (K := KF w.params) (mg := mg) (base := base) (k := 2) (C.gl (g_line_text w.params)) (F_line w.params) (b_line w.params) (ok_line (P := Hd.pw) (w := w) (base := base) (F_line w.params) (TQ C) ⟨_, C.gl (i_BLANK w.params)⟩) (by decide)
abbrev fd_allowed : FuncData := PySem.W.fnOf "allowed_lengths" "allowed_lengths" (defArgs sAllowed) (defBody sAllowed) (defScope sAllowed) .none .none .none (.str "plainlayout.lines" 500) none (.ref 287) .none
theorem l_allowed (P : Params) : (KF P).lookup 288 = some ⟨(.type "function"), none, .func fd_allowed, #[]⟩ := by kernel_rfl
theorem c_allowed (P : Params) : (codeIn (KF P) (.ref 287) "allowed_lengths") = true := by kernel_rfl
theorem k_allowed (P : Params) : keepIn (KF P) (.ref 288) = true := by kernel_rfl
theorem F_allowed (P : Params) : Fun (KF P) "allowed_lengths" "allowed_lengths" sAllowed 288 fd_allowed := fun_mk (l_allowed P) (c_allowed P) (k_allowed P)
theorem b_allowed (P : Params) : L2.Binds (KF P) fd_allowed ["width", "pieces", "start"] [] := (F_allowed P).binds (ps := ["width", "pieces", "start"]) fun _ _ _ _ _ _ us hl => match us, hl with | [_, _, _], _ => rfl
theorem g_allowed_lengths (P : Params) : nsIn (KF P) mainGlobals "allowed_lengths" = some (some (.ref 288)) := by kernel_rfl
def D_allowed (C : Ctx w mg base) := Def.mk (P := Hd.pw) (w := w) (K := KF w.params) (mg := mg) (base := base) (k := 2) (C.gl (g_allowed_lengths w.params)) (F_allowed w.params) (b_allowed w.params) (ok_allowed (P := Hd.pw) (w := w) (base := base) (F_allowed w.params) (TQ C) (C.no (n_len w.params))) (by decide)
abbrev fd_fill : FuncData := PySem.W.fnOf "filling_cost" "filling_cost" (defArgs sFill) (defBody sFill) (defScope sFill) .none .none .none (.str "plainlayout.division" 278) none (.ref 83) .none
theorem l_fill (P : Params) : (KF P).lookup 84 = some ⟨(.type "function"), none, .func fd_fill, #[]⟩ := by kernel_rfl
theorem c_fill (P : Params) : (codeIn (KF P) (.ref 83) "filling_cost") = true := by kernel_rfl
theorem k_fill (P : Params) : keepIn (KF P) (.ref 84) = true := by kernel_rfl
theorem F_fill (P : Params) : Fun (KF P) "filling_cost" "filling_cost" sFill 84 fd_fill := fun_mk (l_fill P) (c_fill P) (k_fill P)
theorem b_fill (P : Params) : L2.Binds (KF P) fd_fill ["room", "size", "is_last", "excess_cost"] [] := (F_fill P).binds (ps := ["room", "size", "is_last", "excess_cost"]) fun _ _ _ _ _ _ us hl => match us, hl with | [_, _, _, _], _ => rfl
theorem g_filling_cost (P : Params) : nsIn (KF P) mainGlobals "filling_cost" = some (some (.ref 84)) := by kernel_rfl
def D_fill (C : Ctx w mg base) := Def.mk (P := Hd.pw) (w := w) (K := KF w.params) (mg := mg) (base := base) (k := 1) (C.gl (g_filling_cost w.params)) (F_fill w.params) (b_fill w.params) (ok_fill (P := Hd.pw) (w := w) (base := base) (F_fill w.params)) (by decide)
abbrev fd_lineCost : FuncData := PySem.W.fnOf "line_cost" "line_cost" (defArgs sLineCost) (defBody sLineCost) (defScope sLineCost) .none .none .none (.str "plainlayout.lines" 500) none (.ref 294) .none
theorem l_lineCost (P : Params) : (KF P).lookup 295 = some ⟨(.type "function"), none, .func fd_lineCost, #[]⟩ := by kernel_rfl
theorem c_lineCost (P : Params) : (codeIn (KF P) (.ref 294) "line_cost") = true := by kernel_rfl
theorem k_lineCost (P : Params) : keepIn (KF P) (.ref 295) = true := by kernel_rfl
theorem F_lineCost (P : Params) : Fun (KF P) "line_cost" "line_cost" sLineCost 295 fd_lineCost := fun_mk (l_lineCost P) (c_lineCost P) (k_lineCost P)
theorem b_lineCost (P : Params) : L2.Binds (KF P) fd_lineCost ["width", "length", "joint", "is_last"] [] := (F_lineCost P).binds (ps := ["width", "length", "joint", "is_last"]) fun _ _ _ _ _ _ us hl => match us, hl with | [_, _, _, _], _ => rfl
theorem g_line_cost (P : Params) : nsIn (KF P) mainGlobals "line_cost" = some (some (.ref 295)) := by kernel_rfl
theorem i_EXCESS_COST (P : Params) : nsIn (KF P) mainGlobals "EXCESS_COST" = some (some (.int 10000 510)) := by kernel_rfl
theorem i_HYPHEN_COST (P : Params) : nsIn (KF P) mainGlobals "HYPHEN_COST" = some (some (.int 50 508)) := by kernel_rfl
def D_lineCost (C : Ctx w mg base) := Def.mk (P := Hd.pw) (w := w) (K := KF w.params) (mg := mg) (base := base) (k := 2) (C.gl (g_line_cost w.params)) (F_lineCost w.params) (b_lineCost w.params) (ok_lineCost (F_lineCost w.params) (TQ C) ⟨_, C.gl (i_EXCESS_COST w.params)⟩ ⟨_, C.gl (i_HYPHEN_COST w.params)⟩ (D_fill C)) (by decide)
abbrev fd_divn : FuncData := PySem.W.fnOf "best_division" "best_division" (defArgs sDivn) (defBody sDivn) (defScope sDivn) .none .none .none (.str "plainlayout.division" 278) none (.ref 76) .none
theorem l_divn (P : Params) : (KF P).lookup 77 = some ⟨(.type "function"), none, .func fd_divn, #[]⟩ := by kernel_rfl
theorem c_divn (P : Params) : (codeIn (KF P) (.ref 76) "best_division") = true := by kernel_rfl
theorem k_divn (P : Params) : keepIn (KF P) (.ref 77) = true := by kernel_rfl
theorem F_divn (P : Params) : Fun (KF P) "best_division" "best_division" sDivn 77 fd_divn := fun_mk (l_divn P) (c_divn P) (k_divn P)
theorem b_divn (P : Params) : L2.Binds (KF P) fd_divn ["size", "costs_from"] [] := (F_divn P).binds (ps := ["size", "costs_from"]) fun _ _ _ _ _ _ us hl => match us, hl with | [_, _], _ => rfl
theorem g_best_division (P : Params) : nsIn (KF P) mainGlobals "best_division" = some (some (.ref 77)) := by kernel_rfl
theorem n_enumerate (P : Params) : nsIn (KF P) mainGlobals "enumerate" = some none := by kernel_rfl
theorem M_divn (C : Ctx w mg base) : mg "best_division" = some (.ref 77) := C.gl (g_best_division w.params)
def G_divn (C : Ctx w mg base) := (show GetsFn Hd.pw w (KF w.params) mg base 6 5 77 spDivn from ok_divn (kc := 5) (F_divn w.params) (b_divn w.params) (C.no (n_range w.params)) (C.no (n_enumerate w.params)))
abbrev fd_allCosts : FuncData := PySem.W.fnOf "allowed_costs" "allowed_costs" (defArgs sAllCosts) (defBody sAllCosts) (defScope sAllCosts) .none .none .none (.str "plainlayout.lines" 500) none (.ref 301) .none
theorem l_allCosts (P : Params) : (KF P).lookup 302 = some ⟨(.type "function"), none, .func fd_allCosts, #[]⟩ := by kernel_rfl
theorem c_allCosts (P : Params) : (codeIn (KF P) (.ref 301) "allowed_costs") = true := by kernel_rfl
theorem k_allCosts (P : Params) : keepIn (KF P) (.ref 302) = true := by kernel_rfl
theorem F_allCosts (P : Params) : Fun (KF P) "allowed_costs" "allowed_costs" sAllCosts 302 fd_allCosts := fun_mk (l_allCosts P) (c_allCosts P) (k_allCosts P)
theorem b_allCosts (P : Params) : L2.Binds (KF P) fd_allCosts ["width", "pieces", "start"] [] := (F_allCosts P).binds (ps := ["width", "pieces", "start"]) fun _ _ _ _ _ _ us hl => match us, hl with | [_, _, _], _ => rfl
theorem g_allowed_costs (P : Params) : nsIn (KF P) mainGlobals "allowed_costs" = some (some (.ref 302)) := by kernel_rfl
def D_allCosts (C : Ctx w mg base) := Def.mk (P := Hd.pw) (w := w) (K := KF w.params) (mg := mg) (base := base) (k := 4) (C.gl (g_allowed_costs w.params)) (F_allCosts w.params) (b_allCosts w.params) (ok_allCosts (F_allCosts w.params) (TQ C) (C.no (n_len w.params)) (C.no (n_enumerate w.params)) (D_allowed C) (D_lineCost C)) (by decide)
abbrev fd_best : FuncData := PySem.W.fnOf "best_counts" "best_counts" (defArgs sBest) (defBody sBest) (defScope sBest) .none .none .none (.str "plainlayout.lines" 500) none (.ref 308) .none
theorem l_best (P : Params) : (KF P).lookup 309 = some ⟨(.type "function"), none, .func fd_best, #[]⟩ := by kernel_rfl
theorem c_best (P : Params) : (codeIn (KF P) (.ref 308) "best_counts") = true := by kernel_rfl
theorem k_best (P : Params) : keepIn (KF P) (.ref 309) = true := by kernel_rfl
theorem F_best (P : Params) : Fun (KF P) "best_counts" "best_counts" sBest 309 fd_best := fun_mk (l_best P) (c_best P) (k_best P)
theorem b_best (P : Params) : L2.Binds (KF P) fd_best ["width", "pieces"] [] := (F_best P).binds (ps := ["width", "pieces"]) fun _ _ _ _ _ _ us hl => match us, hl with | [_, _], _ => rfl
theorem g_best_counts (P : Params) : nsIn (KF P) mainGlobals "best_counts" = some (some (.ref 309)) := by kernel_rfl
theorem LT_best (C : Ctx w mg base) : LamT base mg fd_best "best_counts" (TT cs) := ⟨308, 304, rfl, C.TB (308, 304) (by unfold cs; simp), by unfold TT cs nmT; simp, fun p hp h => by
    unfold TT cs nmT at hp
    simp at hp
    first | (subst hp; rfl) | (rcases hp with rfl | rfl <;> first | rfl | (exact absurd h (by decide)))⟩
def D_best (C : Ctx w mg base) := Def.mk (P := Hd.pw) (w := w) (K := KF w.params) (mg := mg) (base := base) (k := 7) (C.gl (g_best_counts w.params)) (F_best w.params) (b_best w.params) (ok_best (F_best w.params) (C.no (n_len w.params)) (LT_best C) (M_divn C) (k_divn w.params) (G_divn C) (D_allCosts C)) (by decide)
abbrev fd_check : FuncData := PySem.W.fnOf "check_width" "check_width" (defArgs sCheck) (defBody sCheck) (defScope sCheck) .none .none .none (.str "plainlayout.typesetting" 697) none (.ref 359) .none
theorem l_check (P : Params) : (KF P).lookup 360 = some ⟨(.type "function"), none, .func fd_check, #[]⟩ := by kernel_rfl
theorem c_check (P : Params) : (codeIn (KF P) (.ref 359) "check_width") = true := by kernel_rfl
theorem k_check (P : Params) : keepIn (KF P) (.ref 360) = true := by kernel_rfl
theorem F_check (P : Params) : Fun (KF P) "check_width" "check_width" sCheck 360 fd_check := fun_mk (l_check P) (c_check P) (k_check P)
theorem b_check (P : Params) : L2.Binds (KF P) fd_check ["width"] [] := (F_check P).binds (ps := ["width"]) fun _ _ _ _ _ _ us hl => match us, hl with | [_], _ => rfl
theorem g_check_width (P : Params) : nsIn (KF P) mainGlobals "check_width" = some (some (.ref 360)) := by kernel_rfl
theorem i_LEAST_WIDTH (P : Params) : nsIn (KF P) mainGlobals "LEAST_WIDTH" = some (some (.int 10 699)) := by kernel_rfl
theorem i_GREATEST_WIDTH (P : Params) : nsIn (KF P) mainGlobals "GREATEST_WIDTH" = some (some (.int 80 701)) := by kernel_rfl
def D_check (C : Ctx w mg base) := Def.mk (P := Hd.pw) (w := w) (K := KF w.params) (mg := mg) (base := base) (k := 6) (C.gl (g_check_width w.params)) (F_check w.params) (b_check w.params) (ok_check (F_check w.params) (EO C) ⟨_, C.gl (i_LEAST_WIDTH w.params)⟩ ⟨_, C.gl (i_GREATEST_WIDTH w.params)⟩) (by decide)
abbrev fd_div : FuncData := PySem.W.fnOf "division_cost" "division_cost" (defArgs sDiv) (defBody sDiv) (defScope sDiv) .none .none .none (.str "plainlayout.lines" 500) none (.ref 315) .none
theorem l_div (P : Params) : (KF P).lookup 316 = some ⟨(.type "function"), none, .func fd_div, #[]⟩ := by kernel_rfl
theorem c_div (P : Params) : (codeIn (KF P) (.ref 315) "division_cost") = true := by kernel_rfl
theorem k_div (P : Params) : keepIn (KF P) (.ref 316) = true := by kernel_rfl
theorem F_div (P : Params) : Fun (KF P) "division_cost" "division_cost" sDiv 316 fd_div := fun_mk (l_div P) (c_div P) (k_div P)
theorem b_div (P : Params) : L2.Binds (KF P) fd_div ["width", "pieces", "counts"] [] := (F_div P).binds (ps := ["width", "pieces", "counts"]) fun _ _ _ _ _ _ us hl => match us, hl with | [_, _, _], _ => rfl
theorem g_division_cost (P : Params) : nsIn (KF P) mainGlobals "division_cost" = some (some (.ref 316)) := by kernel_rfl
def D_div (C : Ctx w mg base) := Def.mk (P := Hd.pw) (w := w) (K := KF w.params) (mg := mg) (base := base) (k := 6) (C.gl (g_division_cost w.params)) (F_div w.params) (b_div w.params) (ok_div (F_div w.params) (TQ C) (C.no (n_len w.params)) (EF C) (D_line C) (D_lineCost C)) (by decide)
abbrev fd_checked : FuncData := PySem.W.fnOf "checked_pieces" "checked_pieces" (defArgs sChecked) (defBody sChecked) (defScope sChecked) .none .none .none (.str "plainlayout.typesetting" 697) none (.ref 352) .none
theorem l_checked (P : Params) : (KF P).lookup 353 = some ⟨(.type "function"), none, .func fd_checked, #[]⟩ := by kernel_rfl
theorem c_checked (P : Params) : (codeIn (KF P) (.ref 352) "checked_pieces") = true := by kernel_rfl
theorem k_checked (P : Params) : keepIn (KF P) (.ref 353) = true := by kernel_rfl
theorem F_checked (P : Params) : Fun (KF P) "checked_pieces" "checked_pieces" sChecked 353 fd_checked := fun_mk (l_checked P) (c_checked P) (k_checked P)
theorem b_checked (P : Params) : L2.Binds (KF P) fd_checked ["width", "patterns", "text"] [] := (F_checked P).binds (ps := ["width", "patterns", "text"]) fun _ _ _ _ _ _ us hl => match us, hl with | [_, _, _], _ => rfl
theorem g_checked_pieces (P : Params) : nsIn (KF P) mainGlobals "checked_pieces" = some (some (.ref 353)) := by kernel_rfl
def D_checked (C : Ctx w mg base) := Def.mk (P := Hd.pw) (w := w) (K := KF w.params) (mg := mg) (base := base) (k := 14) (C.gl (g_checked_pieces w.params)) (F_checked w.params) (b_checked w.params) (ok_checked (F_checked w.params) (D_check C) (D_read C) (D_pats C) (D_pieces C)) (by decide)
abbrev fd_cost : FuncData := PySem.W.fnOf "cost" "cost" (defArgs sCost) (defBody sCost) (defScope sCost) .none .none .none (.str "plainlayout.typesetting" 697) none (.ref 345) .none
theorem l_cost (P : Params) : (KF P).lookup 346 = some ⟨(.type "function"), none, .func fd_cost, #[]⟩ := by kernel_rfl
theorem c_cost (P : Params) : (codeIn (KF P) (.ref 345) "cost") = true := by kernel_rfl
theorem k_cost (P : Params) : keepIn (KF P) (.ref 346) = true := by kernel_rfl
theorem F_cost (P : Params) : Fun (KF P) "cost" "cost" sCost 346 fd_cost := fun_mk (l_cost P) (c_cost P) (k_cost P)
theorem b_cost (P : Params) : L2.Binds (KF P) fd_cost ["width", "patterns", "text"] [] := (F_cost P).binds (ps := ["width", "patterns", "text"]) fun _ _ _ _ _ _ us hl => match us, hl with | [_, _, _], _ => rfl
theorem g_cost (P : Params) : nsIn (KF P) mainGlobals "cost" = some (some (.ref 346)) := by kernel_rfl
theorem main_ok (C : Ctx w mg base) : FnOk Hd.pw w (KF w.params) mg base CX0 18 346 fd_cost ["width", "patterns", "text"] (spCost (KF w.params) (TT cs)) := ok_cost (F_cost w.params) (gR C) ⟨c_CO w.params, c_CP w.params, c_CU w.params⟩ (C.no (n_len w.params)) (D_checked C) (D_best C) (D_div C)
end
theorem in_bytes {l : List Int} (h : l.all (PySem.W.Codec.inInt 0 255) = true) : ∀ x ∈ l, 0 ≤ x ∧ x ≤ 255 := fun x hx => by
  have q := List.all_eq_true.mp h x hx
  unfold PySem.W.Codec.inInt at q
  simpa using q
theorem in_words {l : List Int} (h : l.all (PySem.W.Codec.inInt 0 4294967295) = true) : ∀ x ∈ l, 0 ≤ x := fun x hx => by
  have q := List.all_eq_true.mp h x hx
  unfold PySem.W.Codec.inInt at q
  have q2 : 0 ≤ x ∧ x ≤ 4294967295 := by simpa using q
  exact q2.1
theorem in_word {x : Int} (h : PySem.W.Codec.inInt 0 4294967295 x = true) : ∃ n : Nat, x = n := by
  unfold PySem.W.Codec.inInt at h
  have q : 0 ≤ x ∧ x ≤ 4294967295 := by simpa using h
  exact ⟨x.toNat, (Int.toNat_of_nonneg q.1).symm⟩
theorem seenK (P : Params) : (KT P).map (fun p => (Nat.blt p.1 361, (Hd.t1 P).get p.1, Hd.fr p.2)) = (KT P).map (fun p => (true, some p.2, false)) := by kernel_rfl
abbrev HK : PySem.W.Hook := PySem.W.kHook KT ids ids_is
theorem tl_304 (P : Params) : (KT P).lookup 304 = some emptyT := by kernel_rfl
theorem tab_empty {w : World} {h : Heap} (X : (KT w.params).In h) : ∀ p ∈ cs, h.get? p.2 = some emptyT := fun p hp => by
  unfold cs at hp
  simp only [List.mem_cons, List.not_mem_nil, or_false] at hp
  subst hp
  · exact X _ _ (tl_304 w.params)
theorem to_304 (P : Params) : (KF P).lookup 304 = none := by kernel_rfl
theorem tab_out (P : Params) : ∀ p ∈ cs, (KF P).lookup p.2 = none := fun p hp => by
  unfold cs at hp
  simp only [List.mem_cons, List.not_mem_nil, or_false] at hp
  subst hp
  · exact to_304 P
theorem tc_304 (P : Params) : PySem.W.codeHdIn (KF P) 308 304 = true := by kernel_rfl
theorem tab_code {w : World} {h : Heap} (X : (KF w.params).In h) : ∀ p ∈ cs, PySem.W.CodeHd h p.1 p.2 := fun p hp => by
  unfold cs at hp
  simp only [List.mem_cons, List.not_mem_nil, or_false] at hp
  subst hp
  · exact PySem.W.codeHd_of_K X (tc_304 w.params)
theorem kin_of_kt {P : Params} {h : Heap} (X : (KT P).In h) : (KF P).In h := fun a o e => X a o (by
  unfold KT
  rw [List.lookup_append, e]
  rfl)
theorem all_mk {w : World} {h : Heap} {mg : Str → Option Value} {fa : Addr} (X : (KT w.params).In h) (G : h.Ns mainGlobals mg) (hmg : mg "cost" = some (.ref fa)) :
    ∃ (K : PySem.W.Frag) (fd : FuncData) (c : List (Addr × Addr)), K.In h ∧ (∀ p ∈ c, h.get? p.2 = some emptyT) ∧ (∀ p ∈ c, K.lookup p.2 = none) ∧ (∀ p ∈ c, PySem.W.CodeHd h p.1 p.2) ∧ (∀ (s : Shared) (us : List Value), us.length = (["width", "patterns", "text"] : List PySem.Str).length → BindsTo s fd ⟨us, []⟩ ((["width", "patterns", "text"] : List PySem.Str).zip us)) ∧
      ∀ base : Heap, K.In base → base.Ns mainGlobals mg → (∀ p ∈ c, TabB base mg p.1 p.2) → FnOk Hd.pw w K mg base CX0 18 fa fd ["width", "patterns", "text"] (spCost K (TT c)) := by
  have Y := kin_of_kt X
  have e := hmg.symm.trans (PySem.W.mg_of Y G (g_cost w.params))
  cases e
  exact ⟨KF w.params, fd_cost, cs, Y, tab_empty X, tab_out w.params, tab_code Y, fun s us hu => match us, hu with | [_, _, _], _ => .of_eq rfl, fun base X' G' TB => main_ok ⟨X', G', TB⟩⟩
end
end Pl
open PySem PySem.W PyProof.Rows L2
set_option maxRecDepth 100000 in
set_option maxHeartbeats 8000000 in
theorem PySem.Challenge.cw_plainlayout_s03_cost_holds : PySem.Challenge.rw_plainlayout_s03_cost.Holds := by
  w_on
  refine Hd.head_run (q := Hd.qv) (H := Pl.HK) (loose := Hd.names) (d := HandSHeadRun.topDef Hd.R.prog 66) (kwd := []) (N := 20000) (M := (12 + (1 + (2895 + 2)))) (m0 := 11) (ann := some (.ref 6)) (H1 := Hd.H1) (k1 := 732) (by kernel_rfl) (by decide) (fun s => by kernel_rfl) (fun w => by kernel_rfl) Hd.run_all (by decide +kernel) Hd.looks Hd.seen (fun w os => Hd.obs_is (Pl.seenK w.params)) (by kernel_rfl) (by kernel_rfl) (by kernel_rfl) os_shapes (by first | assumption | decide +kernel) (by decide +kernel) ⟨rfl, rfl, rfl, rfl, rfl, by decide +kernel⟩ ⟨[.int 0, .list [], .list []], by decide +kernel, by decide +kernel⟩ ?call
  case call =>
    refine L2.walk_tabs (k := 18) (ps := ["width", "patterns", "text"]) (sp := fun K c => Pl.spCost K (Pl.TT c)) (by first | assumption | decide +kernel) rfl rfl ⟨rfl, by decide, by decide⟩ ?F ?S
    case F =>
      intro w mg fa h Y G hmg0
      have X := PySem.W.kIn_of Y
      have hmg : mg ("cost" : PySem.Str) = some (.ref fa) := by
        have e : (HandSHeadRun.topDef Hd.R.prog 66).name = ("cost" : PySem.Str) := by kernel_rfl
        rw [← e]
        exact hmg0
      exact Pl.all_mk X G hmg
    case S =>
      intro K c H0 H xs a hwi hx hs hT
      cases hx with
      | cons h0a h0b =>
        cases h0b with
        | cons h1a h1b =>
          cases h1b with
          | cons h2a h2b =>
            cases h2b
            cases h0a
            cases h1a with
            | lst hs1 hd1 =>
              have e1 := L2.ints_dw a.2.1 _ hd1
              subst e1
              cases h2a with
              | lst hs2 hd2 =>
                have e2 := L2.ints_dw a.2.2.1 _ hd2
                subst e2
                have q : (Codec.inInt 0 4294967295 a.1 && ((Codec.inLen 0 600 a.2.1 && a.2.1.all (Codec.inInt 0 255)) && ((Codec.inLen 0 600 a.2.2.1 && a.2.2.1.all (Codec.inInt 0 255)) && true))) = true := hwi
                simp only [Bool.and_eq_true] at q
                obtain ⟨q0a, ⟨q1a, q1b⟩, ⟨q2a, q2b⟩, _⟩ := q
                obtain ⟨n0, en0⟩ := Pl.in_word q0a
                refine ⟨n0, _, _, a.2.1, a.2.2.1, (by rw [en0]), Pl.tabs_zip hT, (hs.seq hs1), (hs.seq hs2), (Codec.inNat_iff.mp q1a).2, (Codec.inNat_iff.mp q2a).2, Pl.in_bytes q1b, Pl.in_bytes q2b, fun H' p hp => ?_⟩
                rw [← en0] at hp
                exact .lst (L2.SqL.of hp) (L2.dw_ints _)
#print axioms PySem.Challenge.cw_plainlayout_s03_cost_holds

