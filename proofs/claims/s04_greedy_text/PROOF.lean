import PyProof.Rows.All
import Wide.All
import OpenK.AllK
import Wide.FinOn
import PyProof.EqAt
import PyProof.EqKinds
import PyProof.TupleCall
import Open.SpecLaws
import KE.OsGo
import HandS.ForSpec
import HandS.Comp
import HandS.ExcInit
import HandS.ExcField
import HandS.ClsMeth
import KE.GoesEnumKw
import HandS.Walk
import PyProof.Rows.CallKwBuiltin
import HandS.More
import PySem.Challenge.RW_plainlayout_s04_greedy_text
set_option Elab.async false
set_option linter.all false
set_option maxRecDepth 100000
set_option maxHeartbeats 2000000
namespace PySem
namespace Pl
open PySem.W PySem.Calls PyProof.Rows PySem.HandSPX
/-! ### error classes of the program's own, under Exception -/
abbrev exT : List Value := [.type "Exception", .type "BaseException", .type "object"]
/-- own classes, then Exception's chain -/
def UnderE (l : List Value) : Prop := ∃ cs : List Addr, l = cs.map Value.ref ++ exT
theorem UnderE.cons {l : List Value} (c : Addr) (h : UnderE l) : UnderE (.ref c :: l) := by
  obtain ⟨cs, rfl⟩ := h
  exact ⟨c :: cs, rfl⟩
theorem UnderE.has {l : List Value} (h : UnderE l) (n : String) : l.contains (.type n) = exT.contains (.type n) := by
  obtain ⟨cs, rfl⟩ := h
  induction cs with
  | nil => rfl
  | cons c r ih =>
    rw [List.map_cons, List.cons_append, List.contains_cons, ih]
    rfl
theorem UnderE.full {l : List Value} (h : UnderE l) : l.isEmpty = false := by
  obtain ⟨cs, rfl⟩ := h
  cases cs <;> rfl
theorem UnderE.open_ {l : List Value} (h : UnderE l) (self : Value) : refuseLoop self "__setattr__" l = pure () := by
  obtain ⟨cs, rfl⟩ := h
  induction cs with
  | nil => exact F.store_Exception.passes self
  | cons c r ih =>
    rw [List.map_cons, List.cons_append, refuseLoop_ref]
    exact ih
section
open Builtin Builtin.ObjectAttr
variable {prog : Program} {w : World} {A : Around} {R : Result → Shared → Prop} {hp : Heap} {g : Array GenState} {d : Drawn} {t : Nat} {os : OsState}
/-- the first field of a fresh error -/
theorem first_field {K : W.Frag} {name : Str} {tk : Tok} {v : Value} {x C : Addr} {fv : Array Value} {cd : ClassData} (X : K.In hp) (hx : hp.get? x = some { cls := .ref C, data := .fields fv }) (hcd : W.clsIn K C = some cd)
    (hm : UnderE cd.mro) (hh : cd.hasDict = true) (ha : W.findIn K (.ref C) name = some none)
    (hq : ∀ h' tk' dx, (∀ b o, b ≠ x → hp.get? b = some o → h'.get? b = some o) → hp.objs.size ≤ dx → dx ≠ x → h'.get? x = some { cls := .ref C, dict := some dx, data := .fields fv } →
      h'.Ns1 dx (fun y => if y = name then some v else none) → R (.ok (.ret .none)) ⟨h', g, d, tk', os⟩) :
    codeAny (model prog w) A (.call (.builtin "object.__setattr__") ⟨[.ref x, .str name tk, v], []⟩) R ⟨hp, g, d, t, os⟩ := by
  have inst : W.InstAt hp x { cls := .ref C, data := .fields fv } C none := ⟨hx, rfl, rfl, trivial⟩
  have apart : hp.objs.size ≠ x := Nat.ne_of_gt (Heap.lt_size hx)
  have isObj : cd.mro.contains (.type "object") = true := (hm.has "object").trans (by decide +kernel)
  have inMro : W.mroIn K C (.type "object") = some true := by
    unfold W.mroIn
    rw [hcd, Option.bind_some, if_neg (by rw [hm.full]; decide), isObj]
  have lookInst : W.Looks (model prog w) hp (isInstance (.ref x) (.type "object")) true := inst.type.andThen (W.looks_mroIn X inMro)
  have lookCls : W.Looks (model prog w) hp (classData C) cd := W.looks_clsIn X hcd
  have lookMro : W.Looks (model prog w) hp (mroOf (.ref C)) cd.mro := lookCls.andThen .now
  have noTaker : W.Looks (model prog w) hp (storeTaker? none) none := .now
  refine codeAny_call_builtin F.store_object.slot.plain F.store_object.entry ?_
  refine @W.check_slot (model prog w) _ _ ⟨hp, g, d, t, os⟩ "object.__setattr__" "object" "__setattr__" (.ref x) [.str name tk, v] [] _ F.store_object.kind F.store_object.split lookInst (F.store_object.args (.ref x) (.str name tk) v) ?_
  rw [W.osa_eq, refuse_eq]
  refine wpAny_bind (wpAny_bind ?_)
  refine inst.type.at (wpAny_bind ?_)
  refine lookMro.at ?_
  rw [hm.open_]
  refine wpAny_pure (wpAny_bind ?_)
  refine inst.type.at (wpAny_bind ?_)
  refine (W.looks_findIn X ha).at (wpAny_bind ?_)
  refine noTaker.at ?_
  show wpAny _ _ (storeInOwnDict (.ref x) (.ref C) (.str name tk) name v false) _ _ _
  obtain ⟨nm, bs, mro, ns, qn, hd, sn, sb, ab, col, del⟩ := cd
  dsimp only at hh
  subst hh
  unfold storeInOwnDict ownDictForStores
  repeat (first
    | with_reducible refine store_in_new ?_ ?_
    | with_reducible refine wpAny_loadPart_at hx ?_
    | with_reducible refine lookCls.at ?_
    | wp_step)
  · exact ⟨_, #[], _, (Heap.get?_update_ne _ _ _ _ apart).trans (Heap.get?_push_at rfl rfl), rfl, fun e he => absurd he (by simp), fun _ => rfl⟩
  · intro h' tk' hn' hs
    have there : (hp.push { cls := .type "dict", data := .dict #[] }).get? x = some { cls := .ref C, data := .fields fv } := Heap.get?_push_of_some _ hx
    refine hq h' tk' hp.objs.size (fun b o hb ho => ?_) (Nat.le_refl _) apart ?_ hn'
    · have bne : b ≠ hp.objs.size := Nat.ne_of_lt (Heap.lt_size ho)
      exact (hs.2 b bne).trans ((Heap.get?_update_ne _ _ _ _ hb).trans (Heap.get?_push_of_some _ ho))
    · exact (hs.2 x apart.symm).trans (Heap.get?_update_self _ there rfl)
end
end Pl
end PySem

namespace L2
open PySem PySem.Spec PyProof.Rows
/-- what the top has written of an own error class -/
structure ErrC (K : PySem.W.Frag) (C : Addr) : Prop where
  cls : ∃ nm q N bs bm sn sub ab col dd k0 k1 k2 k3 k5, K.lookup C = some (excClassObj nm q C N bs bm true sn sub ab col dd k0 k1 k2 k3 k5 "Exception.__new__") ∧ PySem.Pl.UnderE bm
  sa : PySem.W.findIn K (.ref C) "__setattr__" = some (some (.builtin "object.__setattr__"))
  exC : PySem.W.subIn K (.ref C) (.type "BaseException") = some true
  tyC : PySem.W.typeIn K (.ref C) = some (.type "type")
  kC : PySem.W.keepIn K (.ref C) = true
section
variable {X : Cx} {pins : List (Addr × Obj)} {σ : St} {H : Hp} {s : Shared} {a C : Addr} {f : Str} {y : V} {u : Value} {Q : Unit → Shared → Prop} {E : Value → Shared → Prop} {A : Around}
theorem err_field (T : ErrC X.K C) (I : Inv X pins σ H s) (e : H a = some (exo a C none)) (hno : PySem.W.findIn X.K (.ref C) f = some none) (ry : RelV y u)
    (h : ∀ dx s', H dx = none → dx ≠ a → Inv X pins σ (upd (upd H dx (exd dx [(f, y)])) a (exo a C (some dx))) s' → Q () s') : wpAny (model X.prog X.w) A (setAttr (.ref a) f u) Q E s := by
  obtain ⟨nm, q, N, bs, bm, sn, sub, ab, col, dd, k0, k1, k2, k3, k5, hC, hbm⟩ := T.cls
  have cl : PySem.W.clsIn X.K C = some ⟨nm, bs, .ref C :: bm, N, q, true, sn, sub, ab, col, false⟩ := by
    unfold PySem.W.clsIn
    rw [hC] <;> rfl
  obtain ⟨t1, there⟩ := exo_at I.hok e
  obtain ⟨hp, g, d, t, os⟩ := s
  refine PySem.W.set_plain I.kIn (ox := PySem.HandSPX.excO C t1) (od := none) ⟨there, rfl, rfl, trivial⟩ T.sa ?_
  refine PySem.Pl.first_field I.kIn there cl (hbm.cons C) rfl hno (fun h' tk' dx k dn dne hx hn => ?_)
  have free : H dx = none := I.hok.fresh dn
  have notDx : ∀ {b : Addr} {o : Obj}, hp.get? b = some o → b ≠ dx := fun q => Nat.ne_of_lt (Nat.lt_of_lt_of_le (Heap.lt_size q) dn)
  have notA : ∀ {b : Addr}, H b = none → b ≠ a := fun n z => by
    rw [z, e] at n
    cases n
  have un : Un X.fs [] H (upd (upd H dx (exd dx [(f, y)])) a (exo a C (some dx))) hp h' :=
    ⟨fun b o q n _ _ => k b o (notA n) q, fun b o q n _ _ => ⟨o.slots, k b o (notA n) q⟩,
      fun b o q n _ => by
        rw [upd_ne (notA n), upd_ne (notDx q)]
        exact n,
      fun b o q _ => by
        by_cases hb : b = a
        · subst hb
          exact ⟨_, hx⟩
        · exact ⟨o, k b o hb q⟩,
      fun b xs q => by
        rw [upd_ne (at_ne e q exo_tup), upd_ne (ne_of_none q free)]
        exact q,
      fun b o v q => by
        rw [upd_ne (at_ne e q exo_frz), upd_ne (ne_of_none q free)]
        exact q,
      fun b ps q => ⟨#[], by
        rw [upd_ne (at_ne e q exo_tbl), upd_ne (ne_of_none q free), q]
        simp⟩⟩
  refine h dx _ free dne (I.un (t' := tk') un fun b o q => ?_)
  by_cases hb : b = a
  · subst hb
    rw [upd_same] at q
    cases q
    exact exo_ok hx
  rw [upd_ne hb] at q
  by_cases hd : b = dx
  · subst hd
    rw [upd_same] at q
    cases q
    exact exd_ok hn (relO_put (fs := []) ry fun _ => True.intro)
  rw [upd_ne hd] at q
  have ownNe : ∀ {c : Addr}, H c = some (.own b) → c ≠ a := fun hc => at_ne e hc exo_own
  refine (I.hok b o q).stay (fun c v hc z => k c v ?_ z) (fun c hc => ?_) (fun c xs hc => ?_)
  · rcases hc with hc | hc
    · rw [hc]
      exact hb
    · exact ownNe hc
  · rw [upd_ne (ownNe hc), upd_ne (ne_of_none hc free)]
    exact hc
  · rw [upd_ne (at_ne e hc exo_tup), upd_ne (ne_of_none hc free)]
    exact hc
end
/-- self.f = e, self an own error without fields -/
def tErrF (K : PySem.W.Frag) (f : Str) (to te : TE) : TS := fun D σ H => te σ H fun y H1 => to σ H1 fun x H2 => ∃ a C : Addr, x = .ref a ∧ ErrC K C ∧ PySem.W.findIn K (.ref C) f = some none ∧ H2 a = some (exo a C none) ∧
  ∀ dx, H2 dx = none → dx ≠ a → D.nx σ (upd (upd H2 dx (exd dx [(f, y)])) a (exo a C (some dx)))
section
variable {X : Cx} {o e : Expr} {es : List Expr} {to te : TE} {t : TA} {f x : Str} {p p' p1 p2 pos : Pos} {CX : CXT} {k : Nat} {C fn : Addr} {mc : Value} {fd : FuncData} {ps : List Str} {sp : Sp} {E : XK}
theorem ps_errF (ho : PE X o to) (he : PE X e te) (hs : swapsWith e (some (.Attribute o f p')) pos.line X.env = pure false := by rfl) : PS X (.Assign [.Attribute o f p'] e pos) (tErrF X.K f to te) :=
  ⟨fun pins s σ H D I h => plainObj_wpAny_Assign_Attribute (thn (he.run pins s σ H _ I h) fun v s1 ⟨y, H1, I1, r1, q1⟩ => thn (ho.run pins s1 σ H1 _ I1 q1) fun u s2 ⟨x, H2, I2, r2, a, C, ex, T, hno, ea, q⟩ => by
    subst ex
    obtain rfl : u = Value.ref a := r2
    exact err_field T I2 ea hno r1 fun dx s' n ne J => ⟨σ, _, J, q dx n ne⟩) hs⟩
/-- Base.__init__(self, ..), Base a class of the program's own -/
theorem pe_base {pl : Sem Bool} (r : ClX.CRead X.K C mc) (c : ClX.CVal X.K C mc "__init__" (.ref fn) (.ref fn)) (F : FnOk X.prog X.w X.K X.mg X.base CX k fn fd ps sp) (hr : Room k X.A) (kp : PySem.W.keepIn X.K (.ref fn) = true)
    (hb : Binds X.K fd ps []) (hx : Passes CX X E) (hg : Gl X x) (hm : X.mg x = some (.ref C)) (ha : PA X (e :: es) t) (hdb : (x == ("__debug__" : Str)) = false := by decide)
    (hc : eval (.Call (.Attribute (.Name x p1) "__init__" p2) (e :: es) [] pos) X.env = (do
      let ov ← eval (.Name x p1) X.env
      standAt p2.atName
      let (f, first) ← holding [ov] (getMethod ov "__init__" pl)
      callWith pos f first (backTo pos (starEach (e :: es) X.env)) (backToKw pos (keywordEach [] X.env))) := by rfl)
    (hst : starEach (e :: es) X.env = (false, eval e X.env) :: starEach es X.env := by rfl) (hpl : (backTo pos (starEach es X.env)).any (·.1) = false := by rfl) :
    PE X (.Call (.Attribute (.Name x p1) "__init__" p2) (e :: es) [] pos) (tCall sp [] E t) := by
  refine ⟨fun pins s σ H Q I h => PySem.W.methodCall_KW (pl := pl) (ld_glob I hg hm ?_ hdb) hc⟩
  refine PySem.W.method_cls (I.tok _).kIn r.ga (ClX.getcval_ok (I.tok _) r c fun s' I' => ?_)
  exact PySem.W.callWith_K (first := []) (h₀ := X.base) I.ok.mod.kin kp (thn (ha.run pos pins s' σ H _ I' h) fun us s1 ⟨vs, H1, I1, rv, q⟩ => ⟨I1.kIn, run_fn F hr hb .nil hx I1 rv q⟩) hst hpl
/-- C(), C an own error whose __init__ (at fI) keeps sp: it asks for the error at a, and leaves its dict -/
def tMkE (C : Addr) (sp : Sp) : St → Hp → XK → Prop := fun _ H Q => ∀ a, H a = none → sp [.ref a] (upd H a (exo a C none))
  (fun v H2 => v = .non ∧ ∃ (d : Addr) (fs : List (Str × V)), H2 a = some (exo a C (some d)) ∧ H2 d = some (exd d fs) ∧ H d = none ∧ Q (.ref C) (some d) (upd (del H2 a) d (.xd fs))) (fun _ _ _ => False)
theorem pmk_err {fI : Addr} (T : ErrC X.K C) (iC : PySem.W.findIn X.K (.ref C) "__init__" = some (some (.ref fI))) (tI : PySem.W.typeIn X.K (.ref fI) = some (.type "function"))
    (F1 : FnOk X.prog X.w X.K X.mg X.base CX k fI fd ps sp) (hr : Room (k + 1) X.A) (hb : Binds X.K fd ps []) (hx : Passes CX X (fun _ _ _ => False)) (hg : Gl X x) (hm : X.mg x = some (.ref C))
    (hdb : (x == ("__debug__" : Str)) = false := by decide) : PMk X (.Call (.Name x p) [] [] pos) (tMkE C sp) := by
  intro pins s σ H Q I h
  obtain ⟨nm, q, N, bs, bm, sn, sub, ab, col, dd, k0, k1, k2, k3, k5, hC, hbm⟩ := T.cls
  refine wpAny_Call_Name_kw (ld_glob I hg hm (PySem.W.callWith_K0 I.kIn T.kC ?_) hdb)
  show wpAny _ _ (call (.ref C) []) _ _ _
  obtain ⟨hp, g, dr, tk, os⟩ := s
  have big : hp.objs.size ≤ hp.objs.size + 1 := Nat.le_succ _
  have free : H (hp.objs.size + 1) = none := I.hok.fresh big
  have asked := h (hp.objs.size + 1) free
  have old : ∀ b o, hp.get? b = some o → ((hp.push (PySem.W.kdv_tup [])).push (PySem.HandSPX.excO C hp.objs.size)).get? b = some o := fun b o e => Heap.get?_push_of_some _ (Heap.get?_push_of_some _ e)
  have new : ((hp.push (PySem.W.kdv_tup [])).push (PySem.HandSPX.excO C hp.objs.size)).get? (hp.objs.size + 1) = some (PySem.HandSPX.excO C hp.objs.size) := by heap_get
  have J : Inv X pins σ (upd H (hp.objs.size + 1) (exo (hp.objs.size + 1) C none)) ⟨(hp.push (PySem.W.kdv_tup [])).push (PySem.HandSPX.excO C hp.objs.size), g, dr, tk, os⟩ := I.laid old big (exo_ok new)
  have rv : Vals [V.ref (hp.objs.size + 1)] [Value.ref (hp.objs.size + 1)] := .cons rfl .nil
  have len : [Value.ref (hp.objs.size + 1)].length = ps.length := by
    have e := F1.len _ _ _ _ asked
    exact e
  have bind : BindsTo _ fd ⟨[Value.ref (hp.objs.size + 1)], []⟩ _ := hb _ [Value.ref (hp.objs.size + 1)] J.kIn len
  have run := F1.run _ X.stack _ _ ⟨[Value.ref (hp.objs.size + 1)], []⟩ [Value.ref (hp.objs.size + 1)] _ _ (fun _ _ _ => False) (hr.make C [] []) (J.env0.make C [] []) bind rv asked
  refine wpAny_call (PySem.HandSPX.call_own F.excBase_Exception (fun n => hbm.has n) (I.kIn _ _ hC) (PySem.W.looks_findIn I.kIn iC) (fun self => PySem.W.bind_fn I.kIn self tI) (by rw [sizeLine_eq]; exact Nat.zero_le _) (codeAny_mono run fun r s' hq => ?_))
  rcases r with er | (uv | _ | _ | _)
  · exact hx pins σ _ _ er s' J hq
  all_goals first | exact False.elim hq | skip
  obtain ⟨v, H2, os2, bare2, un2, hok2, rv2, ev, d, fs, ea, ed, hd1, q2⟩ := hq
  subst ev
  obtain ⟨h2, g2, d2, t2, os'⟩ := s'
  exact ⟨rv2, mk_end (raises_own T.exC T.tyC) I big old un2 hok2 os2 bare2 ea ed hd1 q2⟩
end
end L2

namespace PySem
/-! ### a comprehension whose element may raise -/
/-- what is left of the block: its names go; where it raised, the error is passed on at the block's own frame -/
def blockEnd (M : Model) (A : Around) (E : Value → Shared → Prop) (Q : Value → Shared → Prop) (acc : Value) (ce : Env) (r : Result) (s' : Shared) : Prop :=
  ∃ m, s'.heap.Ns ce.locals m ∧ ∀ h', Heap.SameBut ce.locals s'.heap h' → match r with
    | .ok _ => Q acc { s' with heap := h' }
    | .error x => wpAny M A (passOn "comprehension.variables-let-go" x ce : Sem Value) (fun _ _ => False) E { s' with heap := h' }
theorem comprehension_mayRaise {M : Model} {A : Around} {E : Value → Shared → Prop} {s : Shared} {env : Env} {e : Expr} {scope : Scope} {pos : Pos} {newAcc first : Sem Value} {g : Comprehension} {gs : List Comprehension} {cl : List (Str × Addr)}
    {Q : Value → Shared → Prop} (hg : clausesOf e = g :: gs) (plain : ∀ x, foldedSetIterable g.iter env x = pure x) (captured : closureFor scope env = pure cl) (isFun : scope.kind = .function)
    (names : ∀ x ∈ scope.names, x.2 = .local → scope.names.lookup x.1 = some .local)
    (h : wpAny M A first (fun x s1 => wpAny M A (pyIter x) (fun it s2 => wpAny M A newAcc (fun acc s3 => wpAny M A (newFunctionEnv scope env.globals cl [] env.qual none .none (some env))
      (fun ce s4 => codeAny M A (.compStart e 0 it acc { ce with scope := relabel scope env }) (blockEnd M A E Q acc { ce with scope := relabel scope env }) s4) E s3) E s2) E s1) E s) :
    wpAny M A (comprehension e scope env pos newAcc false first none) Q E s := by
  unfold comprehension
  rw [captured, hg]
  refine wpAny_bind (wpAny_mono h (fun x s1 h1 => ?_) fun _ _ z => z)
  refine wpAny_bind (wpAny_standAt (wpAny_bind (wpAny_of_eq (plain x) ?_)))
  refine wpAny_bind (wpAny_holding (wpAny_mono h1 (fun it s2 h2 => ?_) fun _ _ z => z))
  refine wpAny_standIf (wpAny_bind (wpAny_mono h2 (fun acc s3 h3 => ?_) fun _ _ z => z))
  refine wpAny_bind (wpAny_pure (wpAny_bind (wpAny_mono h3 (fun ce s4 h4 => ?_) fun _ _ z => z)))
  dsimp only
  have local_ : ∀ x ∈ (scope.names.filter fun x => (x.2 == .local || x.2 == .cell) && x.1 != (".0" : Str)).reverse, x.2 = .local → Env.kindOf { ce with scope := relabel scope env } x.1 = some .local :=
    fun x hx hl => lookup_relabel_local (names x (List.mem_filter.mp (List.mem_reverse.mp hx)).1 hl)
  refine wpAny_holding (wpAny_bind (wpAny_attempt (wpAny_holding (wpAny_run (codeAny_mono h4 fun r s5 h5 => ?_)))))
  obtain ⟨m, hn, h6⟩ := h5
  cases r with
  | ok f => exact wpAny_bind (wpAny_holding (wpAny_comp_letGo (cenv := { ce with scope := relabel scope env }) isFun _ s5 m local_ hn fun h' m' _ hs => wpAny_pure (h6 h' hs)))
  | error x => exact wpAny_bind (wpAny_holding (wpAny_comp_letGo (cenv := { ce with scope := relabel scope env }) isFun _ s5 m local_ hn fun h' m' _ hs => wpAny_mono (h6 h' hs) (fun _ _ z => z.elim) fun _ _ z => z))
theorem noteFrame_same {e : Value} {a b : Env} (h : a.frame = b.frame) : noteFrame e a = noteFrame e b := by
  unfold noteFrame frameOf
  rw [h]
theorem funFrames_except {base B h h' : Heap} {C : Addr} {oc : Obj} (hC : base.get? C = some oc) (k : ∀ b, b ≠ C → h'.get? b = h.get? b) (hB : ∀ b, base.get? b = none → B.get? b = none) : ∀ {l : List Env}, h.FunFrames base l → h'.FunFrames B l
  | [], _ => trivial
  | env :: l, x => by
    obtain ⟨hk, ⟨L, o, hf, hn, ho, hd⟩, hr⟩ := x
    have ne : L ≠ C := fun z => by
      rw [z, hC] at hn
      cases hn
    exact ⟨hk, ⟨L, o, hf, hB L hn, (k L ne).trans ho, hd⟩, funFrames_except hC k hB hr⟩
end PySem
namespace L2
open PySem PySem.Spec PyProof.Rows
section
variable {X : Cx} {pins : List (Addr × Obj)} {σ : St} {H : Hp} {s s' : Shared} {W : WX} {E : XK}
/-- an error that flew in and is in the hand of X's own frame -/
theorem XE.inHand (I : Inv X pins σ H s) {u : Value} {a : Addr} {B : Heap} {H' : Hp} {cls : Value} {d : Option Addr} (eu : u = .ref a) (held : HandSPX.HeldZ B X.stack a (Zc cls d) X.env.locals s'.heap) (hok : HOk X.prog X.w H' B)
    (ub : UB (frs X.stack) H H' s.heap B s'.heap) (na : H' a = none) (os : s'.os = s.os) (ag : AllBare s'.gens) (w : W cls d σ H') : XE X W u s' := by
  subst eu
  obtain ⟨G, inG, outG⟩ := restrict s'.heap fun b => (B.get? b).isSome || decide (b ∈ frs X.stack)
  have stays : B.StaysIn s'.heap := held.1
  have ground : ∀ b o, B.get? b = some o → G.get? b = some o := fun b o e => (inG b (by simp [e])).trans (stays b o e)
  have frame : ∀ b, b ∈ frs X.stack → G.get? b = s'.heap.get? b := fun b hb => inG b (by simp [hb])
  have which : ∀ b o, G.get? b = some o → s'.heap.get? b = some o ∧ (B.get? b = some o ∨ b ∈ frs X.stack) := fun b o e => by
    cases q : ((B.get? b).isSome || decide (b ∈ frs X.stack)) with
    | false =>
      rw [outG b q] at e
      cases e
    | true =>
      rw [inG b q] at e
      refine ⟨e, ?_⟩
      rw [Bool.or_eq_true] at q
      rcases q with q | q
      · obtain ⟨o', q⟩ := Option.isSome_iff_exists.mp q
        have z := stays b o' q
        rw [e] at z
        cases z
        exact .inl q
      · exact .inr (of_decide_eq_true q)
  have un : Un (frs X.stack) [] H H' s.heap G :=
    ⟨fun b o e n hb _ => ground b o (ub.keep b o e n hb), fun b o e n hb _ => by
        obtain ⟨sl, q⟩ := ub.slot b o e hb
        exact ⟨sl, (frame b hb).trans q⟩,
      fun b o e n _ => ub.free b o e n, fun b o e _ => by
        by_cases hb : b ∈ frs X.stack
        · obtain ⟨sl, q⟩ := ub.slot b o e hb
          exact ⟨_, (frame b hb).trans q⟩
        · obtain ⟨o', q⟩ := ub.there b o e hb
          exact ⟨o', ground b o' q⟩,
      ub.tups, ub.frzs, ub.tbls⟩
  have J : Inv X pins σ H' { s with heap := G, gens := s'.gens, drawn := s'.drawn, toks := s'.toks } := I.call (ch := []) un (hok.kept ground) ag (fun _ z => nomatch z)
  refine ⟨a, B, _, pins, σ, H', cls, d, rfl, J, fun b o e hb => ?_, Heap.UpToSlots.of_keeps fun b o e => (which b o e).1, .inr (.inr held), na, os, ag, w⟩
  rcases (which b o e).2 with z | z
  · exact z
  · exact absurd z hb
/-- the block's frame notes the error of a call, its names go, the error goes on -/
theorem block_raises {C : Addr} {ce : Env} {D : Value} {Qf : Value → Shared → Prop} (hs : X.stack = X.env :: X.outer) (hf : X.env.frame = some X.env.locals) (hcf : ce.frame = X.env.frame) (hcl : ce.locals = C) (tk : Takes X W)
    (I : Inv X pins σ H s) (fC : FpOk X pins H C) {m : Str → Option Value} (hn : s.heap.Ns C m) (nF : C ∉ frs X.stack) (hW : ∀ cls d H', E cls d H' → W cls d σ H') {u : Value} (c : CX X.prog X.w X.stack H s E u s') :
    notedBy (model X.prog X.w) X.A ce (fun e s1 => blockEnd (model X.prog X.w) X.A X.xe Qf D ce (.error e) s1) u s' := by
  obtain ⟨a, B, H', cls, d, rfl, fl, hok, ub, na, os, ag, hE⟩ := c
  have hfr : X.A.frames = some (X.env :: X.outer) := by rw [I.ok.frames, hs]
  have inB : ∀ o, s.heap.get? C = some o → B.get? C = some o := fun o e => ub.keep C o e fC.1 nF
  obtain ⟨oC, esC, epC, hoC, restC⟩ := id hn
  have hBC := inB oC hoC
  have H'C : H' C = none := ub.free C oC hoC fC.1
  show wpAny _ _ (noteFrame (.ref a) ce) _ _ _
  rw [noteFrame_same hcf]
  rw [hs] at fl
  refine HandSPX.looks_onZ Zc.steady hfr hf fl fun h1 hh1 up1 => ?_
  have st1 : B.StaysIn h1 := hh1.1
  refine ⟨m, ?_, fun h2 sb => ?_⟩
  · show h1.Ns ce.locals m
    rw [hcl]
    exact hn.at fun o e => st1 C o (inB o e)
  · show wpAny _ _ (PySem.passOn _ (.ref a) ce : Sem Value) _ _ { s' with heap := h2 }
    rw [hcl] at sb
    have other : ∀ b, b ≠ C → h2.get? b = h1.get? b := fun b hb => sb.2 b hb
    obtain ⟨B2, inB2, outB2⟩ := restrict B fun b => decide (b ≠ C)
    have toB : ∀ b o, B2.get? b = some o → b ≠ C ∧ B.get? b = some o := fun b o e => by
      by_cases hb : b = C
      · rw [outB2 b (by simp [hb])] at e
        cases e
      · exact ⟨hb, (inB2 b (by simp [hb])).symm.trans e⟩
    have noB : ∀ b, B.get? b = none → B2.get? b = none := fun b e => by
      cases q : B2.get? b with
      | none => rfl
      | some o =>
        rw [(toB b o q).2] at e
        cases e
    obtain ⟨_, aB, ff, oe, vs, T, oT, ts, he, hz, hd, hv1, hTn, hTe, hT, hdT, hv3⟩ := id hh1
    have aC : a ≠ C := fun z => by
      rw [z, hBC] at aB
      cases aB
    have TC : T ≠ C := fun z => by
      rw [z, hBC] at hTn
      cases hTn
    have he2 : h2.get? a = some oe := (other a aC).trans he
    have hh2 : HandSPX.HeldZ B2 (X.env :: X.outer) a (Zc cls d) X.env.locals h2 :=
      ⟨fun b o e => (other b (toB b o e).1).trans (st1 b o (toB b o e).2), noB a aB, funFrames_except hBC other noB ff, oe, vs, T, oT, ts, he2, hz, hd, hv1, noB T hTn, hTe, (other T TC).trans hT, hdT, hv3⟩
    unfold PySem.passOn
    refine wpAny_bind (wpAny_field he2 hd hv1 ?_)
    rw [if_neg (show ¬ ((Value.ref T == Value.none) = true) from by simp)]
    have last : wpAny (model X.prog X.w) X.A (setFlight (.ref a) ce.frame) (fun _ s4 => wpAny (model X.prog X.w) X.A (throw (.ref a) : Sem Value) (fun _ _ => False) X.xe s4) X.xe { s' with heap := h2 } := by
      rw [hcf, hf]
      refine HandSPX.setFlight_onZ hh2 fun h3 hh3 up3 => wpAny_throw (tk _ _ ?_)
      -- the state without the block's names
      obtain ⟨G0, inG0, outG0⟩ := restrict s.heap fun b => decide (b ≠ C)
      have toS : ∀ b o, G0.get? b = some o → b ≠ C ∧ s.heap.get? b = some o := fun b o e => by
        by_cases hb : b = C
        · rw [outG0 b (by simp [hb])] at e
          cases e
        · exact ⟨hb, (inG0 b (by simp [hb])).symm.trans e⟩
      have J : Inv X pins σ H { s with heap := G0, toks := s.toks } := I.turned (it := C) (fun b o hb e => (inG0 b (by simpa using hb)).trans e) fC.1 fC.2.1 fC.2.2.2.1 fC.2.2.2.2.1 fC.2.2.2.2.2
      have ne' : ∀ {b : Addr} {o : HO}, H' b = some o → b ≠ C := fun e z => by
        rw [z, H'C] at e
        cases e
      have hok2 : HOk X.prog X.w H' B2 := fun b o q => (hok b o q).stay (fun c v hc e => by
        have cC : c ≠ C := by
          rcases hc with z | z
          · rw [z]
            exact ne' q
          · exact ne' z
        exact (inB2 c (by simp [cC])).trans e) (fun _ z => z) fun _ _ z => z
      have ub2 : UB (frs X.stack) H H' G0 B2 h3 :=
        ⟨fun b o e n hb => (inB2 b (by simp [(toS b o e).1])).trans (ub.keep b o (toS b o e).2 n hb), fun b o e hb => by
            obtain ⟨bC, e0⟩ := toS b o e
            obtain ⟨_, o0, e1, nf⟩ := I.stack.mem hb
            rw [e0] at e1
            cases e1
            obtain ⟨sl, q1⟩ := ub.slot b o e0 hb
            obtain ⟨sl1, q2⟩ := up1 b _ q1 nf
            obtain ⟨sl2, q3⟩ := up3 b _ ((other b bC).trans q2) nf
            exact ⟨sl2, q3⟩,
          fun b o e n => ub.free b o (toS b o e).2 n, fun b o e hb => by
            obtain ⟨o', q⟩ := ub.there b o (toS b o e).2 hb
            exact ⟨o', (inB2 b (by simp [(toS b o e).1])).trans q⟩,
          ub.tups, ub.frzs, ub.tbls⟩
      exact XE.inHand J rfl (by rw [hs]; exact hh3) hok2 ub2 na os ag (hW _ _ _ hE)
    first
      | exact wpAny_bind (wpAny_pure (wpAny_bind last))
      | exact wpAny_bind last
end
section
variable {X : Cx} {W : WX}
/-- what a call of the block's element lets out -/
abbrev blkX (Xb : Cx) (E : XK) (pins : List (Addr × Obj)) : Value → Shared → Prop := fun u s' => ∃ σ H s, Inv Xb pins σ H s ∧ CX Xb.prog Xb.w Xb.stack H s E u s'
theorem pe_lcX {elt tg iter : Expr} {ifs : List Expr} {scope : Scope} {own : List (Str × Nat)} {pos : Pos} {wi : TI} {g : TG} {tt : TT} {te : XK → TE} (hc : X.calm = true) (hN : X.N.Nodup) (hst : X.stack = X.env :: X.outer) (hf : X.env.frame = some X.env.locals) (tk : Takes X W)
    (hi : PI X tg iter wi) (ok : BlkOk X.N X.env.scope scope own)
    (hg : ∀ (s : Shared) (H : Hp) (C : Addr) (cl : List (Str × Addr)) (fp : List Addr), PG (X.blk s H scope (compEnvC scope cl C X.env) fp) tg g)
    (ht : ∀ (s : Shared) (H : Hp) (C : Addr) (cl : List (Str × Addr)) (fp : List Addr), PTs (X.blk s H scope (compEnvC scope cl C X.env) fp) ifs tt)
    (he : ∀ (s : Shared) (H : Hp) (C : Addr) (cl : List (Str × Addr)) (fp : List Addr) (pn : List (Addr × Obj)) (xe : Value → Shared → Prop) (E : XK),
      (∀ σ, PassesAt (L2.CX X.prog X.w) ((X.blk s H scope (compEnvC scope cl C X.env) fp).tr pn xe) σ E) → PE ((X.blk s H scope (compEnvC scope cl C X.env) fp).tr pn xe) elt (te E))
    (plain : ∀ x, foldedSetIterable iter X.env x = pure x := by intro _; rfl) :
    PE X (.ListComp elt [⟨tg, iter, ifs, 0⟩] scope pos) (fun σ H Q => tLc wi g tt (te fun cls d H' => W cls d σ H') (own.map (·.2)) σ H Q) := by
  refine ⟨fun pins s σ H Q I h => ?_⟩
  rw [eval_ListComp]
  have free_ : ∀ y ∈ scope.names, y.2 = .free → ∃ c, X.env.cells.lookup y.1 = some c := fun y hy e => I.ok.has _ (ok.free y hy e)
  refine comprehension_mayRaise rfl plain (closure_ok free_) ok.kind (fun y hy e => by rw [ok.uniq y hy, e]) (thn (hi.run pins s σ H _ I h) fun xv s1 hx => thn hx fun itv s2 h2 => ?_)
  obtain ⟨it, fp, tn, J, H2, e, I2, T, st2, f2, q⟩ := h2
  subst e
  refine wpAny_newObj_type (newEnv_comp ?_) (by show 0 ≤ sizeLine; decide)
  generalize hD : s2.heap.objs.size = D
  obtain ⟨Wt, ⟨m0, w0⟩, turn⟩ := q D (I2.hok.fresh (Nat.le_of_eq hD))
  generalize hs3 : ({ s2 with heap := s2.heap.push { cls := .type "list", data := .seq ([] : List Value).toArray } } : Shared) = s3
  have heap3 : s3.heap = s2.heap.push { cls := .type "list", data := .seq ([] : List Value).toArray } := by rw [← hs3]
  have I3 : Inv X pins σ (upd H2 D (.lst [])) s3 := by
    rw [← hs3]
    refine I2.laid (t' := s2.toks) (fun b o e => Heap.get?_push_of_some _ e) (Nat.le_of_eq hD) ⟨Nat.zero_le _, [], 0, .nil, ?_⟩
    rw [← hD]
    exact Heap.get?_push_size _ rfl
  have fresh3 : ∀ b ∈ fp, FpOk X pins (upd H2 D (.lst [])) b ∧ b < s3.heap.objs.size := fun b hb => by
    obtain ⟨o, e, _⟩ := T.obj _ _ st2 b hb
    have lt := Heap.lt_size e
    refine ⟨⟨?_, (f2 b hb).2⟩, ?_⟩
    · rw [upd_ne (by rw [← hD]; exact Nat.ne_of_lt lt)]
      exact (f2 b hb).1
    · rw [heap3, Heap.size_push]
      exact Nat.lt_succ_of_lt lt
  have st3 : tn 0 s3.heap := T.keep _ _ _ st2 fun b _ o e => by
    rw [heap3]
    exact Heap.get?_push_of_some _ e
  have I4 := block_start I3 ok hN fresh3
  have pg := hg s3 (upd H2 D (.lst [])) s3.heap.objs.size (cellsFrom (s3.heap.objs.size + 1) scope.names (cloFrom X.env.cells scope.names [])) fp
  have pt := ht s3 (upd H2 D (.lst [])) s3.heap.objs.size (cellsFrom (s3.heap.objs.size + 1) scope.names (cloFrom X.env.cells scope.names [])) fp
  have pe := he s3 (upd H2 D (.lst [])) s3.heap.objs.size (cellsFrom (s3.heap.objs.size + 1) scope.names (cloFrom X.env.cells scope.names [])) fp
  show codeAny _ _ (.compStart (.ListComp elt [⟨tg, iter, ifs, 0⟩] scope pos) 0 (.ref it) (.ref D) (compEnvC scope (cellsFrom (s3.heap.objs.size + 1) scope.names (cloFrom X.env.cells scope.names [])) s3.heap.objs.size X.env))
    (blockEnd (model X.prog X.w) X.A X.xe (EP X pins σ Q) (.ref D) (compEnvC scope (cellsFrom (s3.heap.objs.size + 1) scope.names (cloFrom X.env.cells scope.names [])) s3.heap.objs.size X.env)) { s3 with heap := pushCells (s3.heap.push { cls := .type "dict", data := .dict #[] }) scope.names }
  have unheld : ∀ b ∈ fp, (upd H2 D (.lst [])) b = none := fun b hb => (fresh3 b hb).1.1
  have frm : (compEnvC scope (cellsFrom (s3.heap.objs.size + 1) scope.names (cloFrom X.env.cells scope.names [])) s3.heap.objs.size X.env).frame = X.env.frame := rfl
  have loc_ : (compEnvC scope (cellsFrom (s3.heap.objs.size + 1) scope.names (cloFrom X.env.cells scope.names [])) s3.heap.objs.size X.env).locals = s3.heap.objs.size := rfl
  generalize compEnvC scope (cellsFrom (s3.heap.objs.size + 1) scope.names (cloFrom X.env.cells scope.names [])) s3.heap.objs.size X.env = ce at I4 pg pt pe frm loc_ ⊢
  generalize upd H2 D (.lst []) = H3 at I3 I4 pg pt pe w0 unheld fresh3
  generalize hs4 : ({ s3 with heap := pushCells (s3.heap.push { cls := .type "dict", data := .dict #[] }) scope.names } : Shared) = s4 at I4 ⊢
  have st4 : tn 0 s4.heap := T.keep _ _ _ st3 fun b _ o e => by
    rw [← hs4]
    exact pushCells_keeps _ _ _ _ (Heap.get?_push_of_some _ e)
  have own_ : ∀ {σ' : St} {H' : Hp} {s' : Shared}, Inv (X.blk s3 H3 scope ce fp) [] σ' H' s' → (∀ b ∈ fp, H' b = none) → ∀ b ∈ fp, FpOk (X.blk s3 H3 scope ce fp) [] H' b := fun I' hn b hb =>
    ⟨hn b hb, (I'.ok.exf b hb).1, I'.ok.exfs b hb, .inl hb, fun x c e => (I'.ok.exf b hb).2 x c e, fun p hp => absurd (show p ∈ ([] : List (Addr × Obj)) ++ [] from hp) (by simp)⟩
  -- from a state of the block to one of the def
  have back : ∀ {pn' : List (Addr × Obj)} {σ' : St} {H' : Hp} {s' : Shared}, Inv (X.blk s3 H3 scope ce fp) pn' σ' H' s' → Inv X pins σ H' s' ∧ FpOk X pins H' s3.heap.objs.size ∧ ∃ m, s'.heap.Ns s3.heap.objs.size m := fun {pn' σ' H' s'} I' => by
    have z : H' ce.locals = none := I'.free
    rw [loc_] at z
    obtain ⟨m, hn, _⟩ := I'.loc
    have hn : s'.heap.Ns ce.locals m := hn
    rw [loc_] at hn
    exact ⟨I3.call' (ch := fp) I'.os I'.base I'.hok I'.bare fun b hb => ⟨(fresh3 b hb).1.2.2.2.1, (fresh3 b hb).1.2.1, (fresh3 b hb).1.2.2.2.2.1, (fresh3 b hb).1.2.2.2.2.2⟩, I3.fpOk (Nat.le_refl _) z, m, hn⟩
  have notFrame : s3.heap.objs.size ∉ frs X.stack := fun z => by
    obtain ⟨_, o, e, _⟩ := I3.stack.mem z
    exact Nat.lt_irrefl _ (Heap.lt_size e)
  have loop : codeAny (model X.prog X.w) X.A (.compLoop (.ListComp elt [⟨tg, iter, ifs, 0⟩] scope pos) 0 (.ref it) (.ref D) ce) (blockEnd (model X.prog X.w) X.A X.xe (EP X pins σ Q) (.ref D) ce) s4 := by
    refine compLoop_any (fun n s' => ∃ i H', Inv (X.blk s3 H3 scope ce fp) [] (wipe σ (own.map (·.2))) H' s' ∧ tn i s'.heap ∧ (∀ b ∈ fp, H' b = none) ∧ Wt i n H') ?_ m0 ⟨0, H3, I4, st4, unheld, w0⟩
    rintro n s5 ⟨i, H5, I5, st5, n5, w5⟩
    rcases turn i n H5 w5 with ⟨stop, qq⟩ | ⟨go, Nx, hNx, step⟩
    · refine thnF (T.done (X.blk s3 H3 scope ce fp) rfl rfl rfl hc i [] s5 _ H5 (fun _ _ => False) I5 (own_ I5 n5) st5 stop) fun r s6 ⟨hr, I6⟩ => ?_
      subst hr
      obtain ⟨I7, fC, m, hn⟩ := back I6
      refine ⟨m, by rw [loc_]; exact hn, fun h' sb => ?_⟩
      rw [loc_] at sb
      obtain ⟨f0, f1, _, f3, f4, f5⟩ := fC
      exact ⟨.ref D, H5, I7.turned (t' := s6.toks) (fun b o hb e => (sb.2 b hb).trans e) f0 f1 f3 f4 f5, rfl, qq⟩
    · refine thnF (T.item (X.blk s3 H3 scope ce fp) rfl rfl rfl hc i [] s5 _ H5 (fun _ _ => False) I5 (own_ I5 n5) st5 go) fun r s6 ⟨u, hr, h6⟩ => ?_
      subst hr
      refine thnF h6 fun _ s7 ⟨x, H7, I7, r7, y7, st7, n7⟩ => ?_
      have I7' := I7.pinned (own_ I7 n7) (T.obj _ _ st7)
      refine thnF (pg.run _ s7 _ H7 x u _ I7' r7 (step x H7 y7)) fun _ s8 ⟨σ8, H8, I8, hw8, q8⟩ => ?_
      refine thnF (pt.run _ s8 σ8 H8 _ I8 q8) fun b s9 ⟨H9, I9, q9⟩ => ?_
      have next : ∀ {s' : Shared} {H' : Hp}, Inv (X.blk s3 H3 scope ce fp) ([] ++ pinsAt fp s7.heap) σ8 H' s' → Nx H' →
          ∃ m, m < n ∧ ∃ i H', Inv (X.blk s3 H3 scope ce fp) [] (wipe σ (own.map (·.2))) H' s' ∧ tn i s'.heap ∧ (∀ b ∈ fp, H' b = none) ∧ Wt i m H' := fun {s' H'} I' nx => by
        obtain ⟨m', hm, w'⟩ := hNx H' nx
        have still : ∀ b ∈ fp, ∀ o, s7.heap.get? b = some o → s'.heap.get? b = some o ∧ H' b = none := fun b hb o e =>
          have z := I'.pin (b, o) (List.mem_append_right _ (List.mem_append_right _ (mem_pinsAt hb e)))
          ⟨z.1, z.2.1⟩
        refine ⟨m', hm, i + 1, H', (I'.unpinned (pins := [])).weak (by rw [← hw8, wipe_length]) (fun j v e => ?_), T.keep _ _ _ st7 fun b hb o e => (still b hb o e).1, fun b hb => ?_, w'⟩
        · rw [← hw8] at e
          exact (wipe_some e).1
        · obtain ⟨o, e, _⟩ := T.obj _ _ st7 b hb
          exact (still b hb o e).2
      cases b with
      | false =>
        simp only [Bool.false_eq_true, if_false] at q9 ⊢
        exact next I9 q9
      | true =>
        simp only [if_true] at q9 ⊢
        -- the element, in a context whose errors are a call's
        generalize hp9 : ([] ++ pinsAt fp s7.heap : List (Addr × Obj)) = p9 at I9 next
        have okb := I9.ok
        have pe' := pe ((X.blk s3 H3 scope ce fp).pn ++ p9) (blkX (X.blk s3 H3 scope ce fp) (fun cls d H' => W cls d σ H') p9) (fun cls d H' => W cls d σ H') fun σ' pins' H' s' e s'' Ix cx => ⟨σ', H', s', Ix.ofTry okb, cx⟩
        refine wpAny_mono (pe'.run [] s9 σ8 H9 _ (I9.toTry _) q9) (fun z s10 hz => ?_) fun e s10 hz => ?_
        · obtain ⟨yv, H10, I10, r10, acc, hD10, hz10, nx⟩ := hz
          exact app_ok (X := X.blk s3 H3 scope ce fp) (I10.ofTry okb) hD10 hz10 r10 fun s11 I11 => next I11 nx
        · obtain ⟨σ', H', s', Ib, cx⟩ := hz
          obtain ⟨Id, fC, m, hn⟩ := back Ib
          exact block_raises hst hf frm loc_ tk Id fC hn notFrame (fun _ _ _ w => w) cx
  exact codeAny_compStart_list loop (T.self X.A 0 _ _ _ st4 loop)
end
end L2

namespace L2
open PySem PySem.Spec PyProof.Rows
/-! ### enumerate(list, start=k), the list as it stands all the time -/
def ItE (K : PySem.W.Frag) (a : Addr) (xs : List V) (c : Int) : It :=
  ⟨fun i H => i < xs.length ∧ SqL K H a xs, fun i H v H' => ∃ T x, v = .ref T ∧ H T = none ∧ H' = upd H T (.tup [.int (c + (i : Nat)), x]) ∧ xs[i]? = some x, fun i H => SqL K H a xs ∧ xs.length ≤ i⟩
theorem turn_enumK {P : Program} {w : World} {K : PySem.W.Frag} {elts : List Expr} {kk : Nat} {tpos : Pos} (a e it : Addr) (xs : List V) (c : Int) :
    Turn P w K (.Tuple elts kk tpos) (ItE K a xs c) [e, it] e (fun i h => (∃ old, IsEnum h e it (c + ((i : Nat) : Int)) old) ∧ h.IsListIter it a i ∧ e ≠ it ∧ e ≠ a ∧ a ≠ it) where
  mem := by simp
  obj := fun i h st b hb => by
    obtain ⟨⟨old, he⟩, ⟨o, ho, hc, hd⟩, _⟩ := st
    have e' : b = e ∨ b = it := by simpa using hb
    rcases e' with z | z
    · rw [z]; exact ⟨_, he, fun v q => nomatch q⟩
    · rw [z]; exact ⟨o, ho, fun v q => by rw [hd] at q; cases q⟩
  keep := fun i h h' st k => let ⟨⟨old, he⟩, hi, hne⟩ := st; ⟨⟨old, k e (by simp) _ he⟩, hi.at fun o q => k it (by simp) o q, hne⟩
  item := by
    intro X hP hw hK hc i pins s σ H E I hf st hg
    subst hP hw hK
    obtain ⟨⟨old, he⟩, hit, hne, hea, hai⟩ := st
    obtain ⟨hlt, hq⟩ := hg
    obtain ⟨its, rv, p, hz⟩ := I.list hq
    have hl := rv.length
    have hel : e < s.heap.objs.size := Heap.lt_size he
    have hil : it < s.heap.objs.size := by obtain ⟨_, q, _⟩ := hit; exact Heap.lt_size q
    refine wpAny_pyNext_enum_itemC (i := i) (Draws.list (prog := X.prog) (w := X.w) (A := X.A.in1) (I.ok.hd hc) it a hai its.toArray) he ⟨hit, p.isList⟩ (by simp; omega) hne (by simp; exact ⟨hne, hea⟩) fun u h' tk hP ho hst' hT hsz hk => ?_
    obtain ⟨hit', _⟩ := hst'
    have hu : its[i]? = some u := by simpa using hP
    refine ⟨_, rfl, wpAny_letOwnedTupleGo_enum (s := { s with heap := h', toks := tk + 1 }) ho fun h'' he' sb => ?_⟩
    have hT2 : h''.get? s.heap.objs.size = some { cls := .type "tuple", data := .seq #[.int (c + ((i : Nat) : Int)) tk, u] } := (sb.2 _ (Nat.ne_of_gt hel)).trans hT
    obtain ⟨u', hu', ru⟩ := rv.get (x := xs[i]) (i := i) (by simp [hlt])
    have eu : u' = u := by
      rw [hu] at hu'
      cases hu'
      rfl
    subst eu
    have new : ObjOk X.prog X.w (upd H s.heap.objs.size (.tup [.int (c + (i : Nat)), xs[i]])) h'' s.heap.objs.size (.tup [.int (c + (i : Nat)), xs[i]]) :=
      ⟨by show 2 ≤ sizeLine; decide, [.int (c + ((i : Nat) : Int)) tk, u'], .cons ⟨_, rfl⟩ (.cons ru .nil), ⟨_, hT2, rfl, _, rfl⟩⟩
    have I1 : Inv X pins σ (upd H s.heap.objs.size (.tup [.int (c + (i : Nat)), xs[i]])) { s with heap := h'', toks := tk + 1 } :=
      I.turnedNew (ch := [e, it]) (fun b ob hb q => (sb.2 b (fun z => hb (by simp [z]))).trans (hk b ob (fun z => hb (by simp [z])) (fun z => hb (by simp [z])) q)) hf (Nat.le_refl _) new
    refine ⟨.ref s.heap.objs.size, _, I1, rfl, ⟨_, xs[i], rfl, I.hok.fresh (Nat.le_refl _), rfl, by simp [hlt]⟩, ⟨⟨u', ?_⟩, hit'.at fun o q => (sb.2 it (Ne.symm hne)).trans q, hne, hea, hai⟩, fun b hb => ?_⟩
    · have e1 : c + ((i + 1 : Nat) : Int) = c + (i : Int) + 1 := by omega
      rw [e1]; exact he'
    · have hb' : b < s.heap.objs.size := by
        have e' : b = e ∨ b = it := by simpa using hb
        rcases e' with z | z
        · rw [z]; exact hel
        · rw [z]; exact hil
      rw [upd_ne (Nat.ne_of_lt hb')]
      exact (hf b hb).1
  done := by
    intro X hP hw hK hc i pins s σ H E I hf st hg
    subst hP hw hK
    obtain ⟨⟨old, he⟩, hit, hne, _, _⟩ := st
    obtain ⟨hq, hx⟩ := hg
    obtain ⟨its, rv, p, hz⟩ := I.list hq
    obtain ⟨f0, f1, f2, f3, f4, f5⟩ := hf it (by simp)
    have hl := rv.length
    have he2 : IsEnum s.heap e it (c + ((i : Nat) : Int)) old := he
    unfold pyNext
    refine wpAny_bind (wpAny_attempt (wpAny_callSpecial?_slot (name := Str.ofString "__next__") (⟨_, he2, rfl⟩ : s.TypeIs (.ref e) "enumerate") F.slot_enumerate_next
      (wpAny_call_entry F.slot_enumerate_next (⟨_, he2, rfl⟩ : s.TypeIs (.ref e) "enumerate") F.entry_enumerate_next ?_ (F.args_enumerate_next_1 _))))
    show wpAny _ _ (field (.ref e) 2 >>= _) _ _ _
    refine wpAny_bind (wpAny_field he2 rfl (x := .ref it) rfl ?_)
    refine wpAny_bind (wpAny_nextOf_list_end (I.ok.hd hc) hit p.isList (by simp; omega) fun h' x eb hx' => ?_)
    obtain ⟨o, ho, hcl⟩ := hx'
    refine wpAny_bind (wpAny_isInstance (T := "StopIteration") (b := true) ⟨o, ho, hcl⟩ isSubtype_stop ?_)
    exact wpAny_pure ⟨rfl, I.turned (t' := s.toks) (fun b o hb q => eb b o hb q) f0 f1 f3 f4 f5⟩
  self := fun A i s Q E st h => let ⟨⟨_, he⟩, _⟩ := st; wpAny_pyIter_enum he h
theorem walk_enumK {K : PySem.W.Frag} {a : Addr} {xs : List V} {c : Int} : Walk (ItE K a xs c) xs.length (fun H => SqL K H a xs) (YPair (fun i => some (.int (c + (i : Nat)))) (fun i => xs[i]?)) := by
  refine ⟨fun i _ hi q => ⟨hi, q⟩, fun _ q => ⟨q, Nat.le_refl _⟩, fun i H v H' _ q y => ?_⟩
  obtain ⟨T, x, h1, h2, h3, h4⟩ := y
  exact ⟨T, .int (c + (i : Nat)), x, h1, h2, h3, rfl, h4⟩
section
variable {M : Model} {A : Around} {E : Value → Shared → Prop} {s : Shared} {env : Env}
/-- a built-in class called with keywords -/
theorem callWith_typeK {pos : Pos} {T : String} {e : Expr} {rest : List Expr} {kws : List Keyword} {Q : Value → Shared → Prop}
    (h : wpAny M A (spliced (backTo pos (starEach (e :: rest) env))) (fun vs s1 => wpAny M A (evalAll ((backToKw pos (keywordEach kws env)).map (·.2)))
      (fun kvs s2 => wpAny M A (call (.type T) vs (((backToKw pos (keywordEach kws env)).filterMap (·.1)).zip kvs)) Q E s2) E s1) E s)
    (he : backTo pos (starEach (e :: rest) env) = (false, eval e env) :: backTo pos (starEach rest env)) (hplain : (backTo pos (starEach (e :: rest) env)).any (·.1) = false)
    (hall : (backToKw pos (keywordEach kws env)).all (·.1.isSome) = true) (hkw : (backToKw pos (keywordEach kws env)).any (·.1.isNone) = false) :
    wpAny M A (callWith pos (.type T) [] (backTo pos (starEach (e :: rest) env)) (backToKw pos (keywordEach kws env))) Q E s := by
  have key : wpAny M A (evalArgs (.type T) true (backTo pos (starEach (e :: rest) env)) (backToKw pos (keywordEach kws env))) (fun a s1 => wpAny M A (call (.type T) ([] ++ a.pos) a.kw) Q E s1) E s := by
    rw [he] at h ⊢
    exact evalArgs_kwB hall h
  unfold callWith
  refine wpAny_bind (wpAny_holding (wpAny_mono key (fun a s1 h1 => wpAny_bind (wpAny_standAt ?_)) fun _ _ x => x))
  simp only [hplain, hkw, Bool.or_false]
  refine wpAny_bind (wpAny_pure ?_)
  exact wpAny_bind (wpAny_mono h1 (fun r s2 hr => wpAny_bind (wpAny_holding (wpAny_point (wpAny_pure hr)))) fun _ _ x => x)
end
def iEnumK (K : PySem.W.Frag) (ta : TA) (tk : TA) : TI := fun σ H R => ta σ H fun vs H1 => tk σ H1 fun zs H2 => ∃ (a : Addr) (xs : List V) (c : Int), vs = [.ref a] ∧ zs = [.int c] ∧ -(2 ^ 63) ≤ c ∧ c < 2 ^ 63 ∧ SqL K H2 a xs ∧ R (ItE K a xs c) H2
theorem pi_enumK {X : Cx} {e : Expr} {kws : List Keyword} {ta tk : TA} {p pos tpos : Pos} {elts : List Expr} {kk : Nat} (hg : Gl X "enumerate") (hm : X.mg "enumerate" = none) (ha : PA X [e] ta) (hk : PK X kws tk)
    (he : backTo pos (starEach [e] X.env) = (false, eval e X.env) :: backTo pos (starEach [] X.env) := by rfl) (hpl : (backTo pos (starEach [e] X.env)).any (·.1) = false := by rfl)
    (hall : (backToKw pos (keywordEach kws X.env)).all (·.1.isSome) = true := by rfl) (hnone : (backToKw pos (keywordEach kws X.env)).any (·.1.isNone) = false := by rfl)
    (hks : (backToKw pos (keywordEach kws X.env)).filterMap (·.1) = [Str.ofString "start"] := by rfl) :
    PI X (.Tuple elts kk tpos) (.Call (.Name "enumerate" p) [e] kws pos) (iEnumK X.K ta tk) := by
  refine ⟨fun pins s σ H R I h => ?_⟩
  refine wpAny_Call_Name_kw (ld_blt I hg hm boot_enumerate ?_)
  refine callWith_typeK (thn (ha.run pos pins s σ H _ I h) fun us s1 ⟨vs, H1, I1, r1, q1⟩ => thn (hk.run pos pins s1 σ H1 _ I1 q1) fun ws s2 ⟨zs, H2, I2, r2, q2⟩ => ?_) he hpl hall hnone
  obtain ⟨a, xs, c, e1, e2, hc0, hc1, hq, q⟩ := q2
  subst e1 e2
  rw [hks]
  cases r1 with
  | cons r rr =>
    cases rr
    cases r
    cases r2 with
    | cons r' rr' =>
      cases rr'
      obtain ⟨t, rfl⟩ := r'
      obtain ⟨its, rv, p', hz⟩ := I2.list hq
      obtain ⟨oa, hoa, _⟩ := id p'.isList
      have hal : a < s2.heap.objs.size := Heap.lt_size hoa
      refine enum_begins_start (begins_list a its.toArray) p'.isList hc0 hc1 fun h' he hit hsz hk => wpAny_pyIter_enum he ?_
      have I3 : Inv X pins σ H2 { s2 with heap := h' } := I2.kept (t' := s2.toks) hk
      have e0 : c + ((0 : Nat) : Int) = c := by simp
      refine ⟨s2.heap.objs.size + 1, [s2.heap.objs.size + 1, s2.heap.objs.size], _, _, H2, rfl, I3, turn_enumK a (s2.heap.objs.size + 1) s2.heap.objs.size xs c,
        ⟨⟨.none, by rw [e0]; exact he⟩, ⟨_, hit, rfl, rfl⟩, Nat.succ_ne_self _, Nat.ne_of_gt (Nat.lt_succ_of_lt hal), Nat.ne_of_lt hal⟩, fun b hb => ?_, q⟩
      have e' : b = s2.heap.objs.size + 1 ∨ b = s2.heap.objs.size := by simpa using hb
      have hle : s2.heap.objs.size ≤ b := by
        rcases e' with z | z
        · rw [z]; exact Nat.le_add_right _ _
        · rw [z]; exact Nat.le_refl _
      exact I2.fpOk hle (I2.hok.fresh hle)
end L2

namespace Pm
open Kh450 (Text)

/-! ### words -/
theorem tw_eq (p : Nat → Bool) : ∀ t : List Nat, Kh450.takeWhile p t = (t.takeWhile p, t.dropWhile p)
  | [] => by simp [Kh450.takeWhile]
  | c :: r => by
    have ih := tw_eq p r
    unfold Kh450.takeWhile
    by_cases h : p c = true
    · simp [h, ih, List.takeWhile_cons, List.dropWhile_cons]
    · simp [h, List.takeWhile_cons, List.dropWhile_cons]

abbrev nw (c : Nat) : Bool := !Kh450.isWhite c

def wordOf? : Kh450.Atom → Option Text
  | .word w => some w
  | _ => none

theorem atoms_fuel : ∀ (f g : Nat) (t : List Nat), t.length < f → t.length < g → Kh450.atomsOf f t = Kh450.atomsOf g t
  | 0, _, _, h, _ => absurd h (Nat.not_lt_zero _)
  | _, 0, _, _, h => absurd h (Nat.not_lt_zero _)
  | f + 1, g + 1, [], _, _ => rfl
  | f + 1, g + 1, c :: r, hf, hg => by
    simp only [List.length_cons] at hf hg
    unfold Kh450.atomsOf
    by_cases h : Kh450.isWhite c = true
    · simp only [h, if_true, tw_eq]
      have hl : (r.dropWhile Kh450.isWhite).length ≤ r.length := (List.dropWhile_sublist _).length_le
      rw [atoms_fuel f g _ (by omega) (by omega)]
    · simp only [if_neg h, tw_eq]
      have hc : nw c = true := by simp [nw, h]
      have hl : ((c :: r).dropWhile (fun x => !Kh450.isWhite x)).length ≤ r.length := by
        rw [List.dropWhile_cons, if_pos hc]
        exact (List.dropWhile_sublist _).length_le
      rw [atoms_fuel f g _ (by omega) (by omega)]

theorem wordsOf_def (t : List Nat) (f : Nat) (h : t.length < f) : Kh455.wordsOf t = (Kh450.atomsOf f t).filterMap wordOf? := by
  unfold Kh455.wordsOf
  rw [atoms_fuel (t.length + 1) f t (by omega) h]
  rfl

theorem words_nil : Kh455.wordsOf [] = [] := rfl
theorem words_white_drop {c : Nat} {r : List Nat} (h : Kh450.isWhite c = true) : Kh455.wordsOf (c :: r) = Kh455.wordsOf (r.dropWhile Kh450.isWhite) := by
  rw [wordsOf_def (c :: r) (r.length + 2) (by simp), wordsOf_def (r.dropWhile Kh450.isWhite) (r.length + 1) (by
    have hl : (r.dropWhile Kh450.isWhite).length ≤ r.length := (List.dropWhile_sublist _).length_le
    omega)]
  conv => lhs; unfold Kh450.atomsOf
  simp only [h, if_true, tw_eq, List.filterMap_cons, wordOf?]
theorem words_drop : ∀ r : List Nat, Kh455.wordsOf (r.dropWhile Kh450.isWhite) = Kh455.wordsOf r
  | [] => rfl
  | c :: r => by
    by_cases h : Kh450.isWhite c = true
    · rw [List.dropWhile_cons, if_pos h, words_white_drop h]
    · rw [List.dropWhile_cons, if_neg h]
theorem words_white {c : Nat} {r : List Nat} (h : Kh450.isWhite c = true) : Kh455.wordsOf (c :: r) = Kh455.wordsOf r := (words_white_drop h).trans (words_drop r)
theorem words_word {c : Nat} {r : List Nat} (h : Kh450.isWhite c = false) : Kh455.wordsOf (c :: r) = (c :: r.takeWhile nw) :: Kh455.wordsOf (r.dropWhile nw) := by
  have hc : nw c = true := by simp [nw, h]
  have hl : (r.dropWhile nw).length ≤ r.length := (List.dropWhile_sublist _).length_le
  rw [wordsOf_def (c :: r) (r.length + 2) (by simp), wordsOf_def (r.dropWhile nw) (r.length + 1) (by omega)]
  conv => lhs; unfold Kh450.atomsOf
  simp only [h, tw_eq, List.takeWhile_cons, List.dropWhile_cons, Bool.not_false, if_true, Bool.false_eq_true, if_false, List.filterMap_cons, wordOf?]

/-- the turn of words_of's loop: the words that are ended, the one under way -/
def wStep (s : List Text × Text) (c : Nat) : List Text × Text :=
  if Kh450.isWhite c then (if s.2.isEmpty then s else (s.1 ++ [s.2], [])) else (s.1, s.2 ++ [c])
def wEnd (s : List Text × Text) : List Text := if s.2.isEmpty then s.1 else s.1 ++ [s.2]

theorem wEnd_run : ∀ (t : List Nat) (ws : List Text) (w : Text),
    wEnd (t.foldl wStep (ws, w)) = ws ++ (if w.isEmpty then Kh455.wordsOf t else (w ++ t.takeWhile nw) :: Kh455.wordsOf (t.dropWhile nw))
  | [], ws, w => by
    cases w with
    | nil => simp [wEnd, words_nil]
    | cons a w => simp [wEnd, words_nil]
  | c :: r, ws, w => by
    rw [List.foldl_cons]
    by_cases h : Kh450.isWhite c = true
    · have hn : nw c = false := by simp [nw, h]
      cases w with
      | nil =>
        have e : wStep (ws, []) c = (ws, []) := by simp [wStep, h]
        rw [e, wEnd_run r ws []]
        simp [words_white h]
      | cons a w =>
        have e : wStep (ws, a :: w) c = (ws ++ [a :: w], []) := by simp [wStep, h]
        rw [e, wEnd_run r (ws ++ [a :: w]) []]
        simp [List.takeWhile_cons, List.dropWhile_cons, h, words_white h]
    · have h' : Kh450.isWhite c = false := by simpa using h
      have hn : nw c = true := by simp [nw, h']
      have e : wStep (ws, w) c = (ws, w ++ [c]) := by simp [wStep, h']
      rw [e, wEnd_run r ws (w ++ [c])]
      have ne : (w ++ [c]).isEmpty = false := by cases w <;> rfl
      cases w with
      | nil => simp [words_word h']
      | cons a w => simp [List.takeWhile_cons, List.dropWhile_cons, h']
theorem wEnd_all (t : List Nat) : wEnd (t.foldl wStep ([], [])) = Kh455.wordsOf t := by
  rw [wEnd_run]; simp

/-! ### a pattern -/
/-- the loop of pattern_of: letters, levels, after_digit; none: it raises -/
def pStep (s : Text × List Nat × Bool) (c : Nat) : Option (Text × List Nat × Bool) :=
  if Kh450.isDigit c then (if s.2.2 then none else some (s.1, s.2.1.set (s.2.1.length - 1) (c - 48), true))
  else if Kh450.isLower c || c == 46 then some (s.1 ++ [c], s.2.1 ++ [0], false)
  else none
def pRun : List Nat → Text × List Nat × Bool → Option (Text × List Nat × Bool)
  | [], s => some s
  | c :: r, s => (pStep s c).bind (pRun r)
def patOf (w : Text) : Option Kh455.Pattern := match Kh455.readPattern w with
  | some p => if p.letters.isEmpty then none else some p
  | none => none

theorem set_last (v : List Nat) (a b : Nat) : (v ++ [a]).set ((v ++ [a]).length - 1) b = v ++ [b] := by
  simp

theorem read_levels : ∀ (w : List Nat) (p : Kh455.Pattern), Kh455.readPattern w = some p → p.levels.length = p.letters.length + 1
  | [], p, h => by
    simp [Kh455.readPattern] at h
    subst h; rfl
  | c :: r, p, h => by
    unfold Kh455.readPattern at h
    split at h
    · split at h
      · cases h; rfl
      · rename_i d r' 
        split at h
        · cases h
        · cases e : Kh455.readPattern (d :: r') with
          | none => rw [e] at h; cases h
          | some q =>
            have ih := read_levels (d :: r') q e
            rw [e] at h
            cases h
            simp only [List.length_cons, List.length_drop]
            omega
    · split at h
      · cases e : Kh455.readPattern r with
        | none => rw [e] at h; cases h
        | some q =>
          have ih := read_levels r q e
          rw [e] at h
          cases h
          simp only [List.length_cons]
          omega
      · cases h

theorem pRun_read : ∀ (w : List Nat) (l : Text) (v : List Nat) (d : Nat),
    (pRun w (l, v ++ [0], false)).map (fun s => (s.1, s.2.1)) = (Kh455.readPattern w).map (fun p => (l ++ p.letters, v ++ p.levels)) ∧
    (pRun w (l, v ++ [d], true)).map (fun s => (s.1, s.2.1)) = (match w with
      | [] => some (l, v ++ [d])
      | c :: _ => if Kh450.isDigit c then none else (Kh455.readPattern w).map (fun p => (l ++ p.letters, v ++ d :: p.levels.drop 1)))
  | [], l, v, d => by simp [pRun, Kh455.readPattern]
  | c :: r, l, v, d => by
    by_cases hd : Kh450.isDigit c = true
    · constructor
      · have e : pRun (c :: r) (l, v ++ [0], false) = pRun r (l, v ++ [c - 48], true) := by
          simp [pRun, pStep, hd]
        rw [e, (pRun_read r l v (c - 48)).2]
        cases r with
        | nil =>
          have e2 : Kh455.readPattern [c] = some ⟨[], [c - 48]⟩ := by
            show (if Kh450.isDigit c = true then _ else _) = _
            rw [if_pos hd]
          rw [e2]; simp
        | cons a r' =>
          have e2 : Kh455.readPattern (c :: a :: r') = if Kh450.isDigit a then none else (Kh455.readPattern (a :: r')).map fun p => ⟨p.letters, (c - 48) :: p.levels.drop 1⟩ := by
            show (if Kh450.isDigit c = true then _ else _) = _
            rw [if_pos hd]
          rw [e2]
          by_cases ha : Kh450.isDigit a = true
          · simp only [if_pos ha]; rfl
          · simp only [if_neg ha]
            cases Kh455.readPattern (a :: r') with
            | none => rfl
            | some p => rfl
      · simp [pRun, pStep, hd]
    · by_cases hl : (Kh450.isLower c || c == 46) = true
      · have key : ∀ (b : Bool) (v' : List Nat), pRun (c :: r) (l, v', b) = pRun r (l ++ [c], v' ++ [0], false) := by
          intro b v'
          simp [pRun, pStep, hd, hl]
        have e1 : Kh455.readPattern (c :: r) = (Kh455.readPattern r).map fun p => ⟨c :: p.letters, 0 :: p.levels⟩ := by
          conv => lhs; unfold Kh455.readPattern
          simp [hd, hl]
        constructor
        · rw [key, (pRun_read r (l ++ [c]) (v ++ [0]) 0).1, e1]
          cases Kh455.readPattern r with
          | none => rfl
          | some p => simp
        · rw [key, (pRun_read r (l ++ [c]) (v ++ [d]) 0).1]
          simp only [hd, Bool.false_eq_true, if_false]
          rw [e1]
          cases Kh455.readPattern r with
          | none => rfl
          | some p => simp
      · constructor
        · have e1 : Kh455.readPattern (c :: r) = none := by
            conv => lhs; unfold Kh455.readPattern
            simp [hd, hl]
          rw [e1]
          simp [pRun, pStep, hd, hl]
        · have e1 : Kh455.readPattern (c :: r) = none := by
            conv => lhs; unfold Kh455.readPattern
            simp [hd, hl]
          simp [pRun, pStep, hd, hl, e1]
theorem pRun_all (w : List Nat) : (pRun w ([], [0], false)).map (fun s => (s.1, s.2.1)) = (Kh455.readPattern w).map (fun p => (p.letters, p.levels)) := by
  have h := (pRun_read w [] [] 0).1
  simpa using h
theorem pRun_snoc : ∀ (w : List Nat) (c : Nat) (s : Text × List Nat × Bool), pRun (w ++ [c]) s = (pRun w s).bind fun q => pStep q c
  | [], c, s => by simp [pRun]
  | a :: w, c, s => by
    show (pStep s a).bind (pRun (w ++ [c])) = ((pStep s a).bind (pRun w)).bind fun q => pStep q c
    cases pStep s a with
    | none => rfl
    | some q => exact pRun_snoc w c q

/-- all patterns -/
def pats : List Text → Option (List Kh455.Pattern)
  | [] => some []
  | w :: r => match patOf w, pats r with
    | some p, some l => some (p :: l)
    | _, _ => none
theorem readPatterns_eq (t : List Nat) : Kh455.readPatterns t = pats (Kh455.wordsOf t) := by
  unfold Kh455.readPatterns
  induction Kh455.wordsOf t with
  | nil => rfl
  | cons w r ih =>
    rw [List.foldr_cons, ih]
    show _ = (match patOf w, pats r with
      | some p, some l => some (p :: l)
      | _, _ => none)
    unfold patOf
    cases Kh455.readPattern w with
    | none => rfl
    | some p =>
      cases pats r with
      | none => by_cases h : p.letters.isEmpty = true <;> simp only [h] <;> rfl
      | some l => by_cases h : p.letters.isEmpty = true <;> simp only [h] <;> rfl
end Pm

namespace Pm
open Kh450 (Text)

/-! ### UTF-8, as the program reads it -/
def seqSize (a : Nat) : Option Nat :=
  if a < 128 then some 1 else if 192 ≤ a ∧ a < 224 then some 2 else if 224 ≤ a ∧ a < 240 then some 3 else if 240 ≤ a ∧ a < 248 then some 4 else none
def smallest (n : Nat) : Nat := [0, 0, 128, 2048, 65536].getD n 0
def leads (n : Nat) : Nat := [0, 0, 192, 224, 240].getD n 0
/-- the loop of read_sequence -/
def cRun : List Nat → Nat → Option Nat
  | [], c => some c
  | b :: r, c => if 128 ≤ b ∧ b < 192 then cRun r (c * 64 + b - 128) else none
theorem cRun_snoc : ∀ (l : List Nat) (b c : Nat), cRun (l ++ [b]) c = (cRun l c).bind fun d => if 128 ≤ b ∧ b < 192 then some (d * 64 + b - 128) else none
  | [], b, c => by
    show (if _ then _ else _) = _
    by_cases h : 128 ≤ b ∧ b < 192
    · rw [if_pos h]; simp [h, cRun]
    · rw [if_neg h]; simp [h, cRun]
  | a :: l, b, c => by
    show (if 128 ≤ a ∧ a < 192 then cRun (l ++ [b]) (c * 64 + a - 128) else none) = _
    by_cases h : 128 ≤ a ∧ a < 192
    · rw [if_pos h, cRun_snoc l b]
      show _ = (if _ then _ else _ : Option Nat).bind _
      rw [if_pos h]
    · rw [if_neg h]
      show _ = (if _ then _ else _ : Option Nat).bind _
      rw [if_neg h]; rfl
def readSeq (l : List Nat) (n : Nat) : Option Nat :=
  if l.length < n then none
  else match l with
    | [] => none
    | a :: r => (cRun r (a - leads n)).bind fun c => if c < smallest n ∨ (55296 ≤ c ∧ c ≤ 57343) ∨ 1114111 < c then none else some c
theorem sz1 {a : Nat} (h : a < 128) : seqSize a = some 1 := if_pos h
theorem sz2 {a : Nat} (h : 192 ≤ a ∧ a < 224) : seqSize a = some 2 := (if_neg (by omega)).trans (if_pos h)
theorem sz3 {a : Nat} (h : 224 ≤ a ∧ a < 240) : seqSize a = some 3 := (if_neg (by omega)).trans ((if_neg (by omega)).trans (if_pos h))
theorem sz4 {a : Nat} (h : 240 ≤ a ∧ a < 248) : seqSize a = some 4 := (if_neg (by omega)).trans ((if_neg (by omega)).trans ((if_neg (by omega)).trans (if_pos h)))
theorem sz0 {a : Nat} (h : (128 ≤ a ∧ a < 192) ∨ 248 ≤ a) : seqSize a = none := (if_neg (by omega)).trans ((if_neg (by omega)).trans ((if_neg (by omega)).trans (if_neg (by omega))))
theorem decode_eq (a : Nat) (rest : List Nat) : Kh450.decodeUtf8 (a :: rest) = (match seqSize a with
    | none => none
    | some n => (readSeq ((a :: rest).take n) n).map fun c => (c, (a :: rest).drop n)) := by
  have hc : ∀ b, Kh450.isContinuation b = decide (128 ≤ b ∧ b < 192) := fun b => by
    unfold Kh450.isContinuation; by_cases h1 : 128 ≤ b <;> by_cases h2 : b < 192 <;> simp [h1, h2]
  have hs : ∀ c, Kh450.isScalar c = decide (c ≤ 1114111 ∧ ¬ (55296 ≤ c ∧ c ≤ 57343)) := fun c => by
    unfold Kh450.isScalar
    by_cases h1 : c < 1114112 <;> by_cases h2 : 55296 ≤ c <;> by_cases h3 : c < 57344 <;> simp [h1, h2, h3] <;> omega
  unfold Kh450.decodeUtf8
  dsimp only
  by_cases h1 : a < 128
  · rw [if_pos h1, sz1 h1]
    have e : readSeq [a] 1 = some a := by
      unfold readSeq
      simp [cRun, leads, smallest]
      omega
    simp [e]
  · rw [if_neg h1]
    by_cases h2 : a < 194
    · rw [if_pos h2]
      by_cases h3 : 192 ≤ a ∧ a < 224
      · rw [sz2 h3]
        cases rest with
        | nil => simp [readSeq]
        | cons b r =>
          simp only [List.take_succ_cons, List.take_zero]
          have e : readSeq [a, b] 2 = none := by
            unfold readSeq
            simp only [List.length_cons, List.length_nil, leads, smallest]
            by_cases hb : 128 ≤ b ∧ b < 192
            · simp [cRun, hb]
              intro h4; omega
            · simp [cRun, hb]
          rw [e]; rfl
      · rw [sz0 (by omega)]
    · rw [if_neg h2]
      by_cases h3 : a < 224
      · rw [if_pos h3, sz2 (by omega)]
        cases rest with
        | nil => simp [readSeq]
        | cons b r =>
          simp only [List.take_succ_cons, List.take_zero, List.drop_succ_cons, List.drop_zero, hc]
          by_cases hb : 128 ≤ b ∧ b < 192
          · have e : readSeq [a, b] 2 = some (a % 32 * 64 + b % 64) := by
              unfold readSeq
              simp only [List.length_cons, List.length_nil, leads, smallest]
              simp [cRun, hb]
              omega
            rw [e]; simp [hb]
          · have e : readSeq [a, b] 2 = none := by
              unfold readSeq
              simp [cRun, hb]
            rw [e]; simp [hb]
      · rw [if_neg h3]
        by_cases h4 : a < 240
        · rw [if_pos h4, sz3 (by omega)]
          match rest with
          | [] => simp [readSeq]
          | [b] => simp [readSeq]
          | b :: c :: r =>
            simp only [List.take_succ_cons, List.take_zero, List.drop_succ_cons, List.drop_zero, hc, hs]
            by_cases hb : 128 ≤ b ∧ b < 192
            · by_cases hd : 128 ≤ c ∧ c < 192
              · have ev : ((a - 224) * 64 + b - 128) * 64 + c - 128 = a % 16 * 4096 + b % 64 * 64 + c % 64 := by omega
                have e : readSeq [a, b, c] 3 = (if (a % 16 * 4096 + b % 64 * 64 + c % 64) < 2048 ∨ (55296 ≤ (a % 16 * 4096 + b % 64 * 64 + c % 64) ∧ (a % 16 * 4096 + b % 64 * 64 + c % 64) ≤ 57343) ∨ 1114111 < (a % 16 * 4096 + b % 64 * 64 + c % 64) then none else some (a % 16 * 4096 + b % 64 * 64 + c % 64)) := by
                  have ec : cRun [b, c] (a - leads 3) = some (a % 16 * 4096 + b % 64 * 64 + c % 64) := by
                    show (if _ then (if _ then some (((a - 224) * 64 + b - 128) * 64 + c - 128) else none) else none) = _
                    rw [if_pos hb, if_pos hd, ev]
                  show (if [a, b, c].length < 3 then none else (cRun [b, c] (a - leads 3)).bind _) = _
                  rw [if_neg (by simp), ec]
                  rfl
                rw [e]
                generalize a % 16 * 4096 + b % 64 * 64 + c % 64 = x
                by_cases q : x < 2048 ∨ (55296 ≤ x ∧ x ≤ 57343) ∨ 1114111 < x
                · rw [if_pos q, if_neg (by simp [hb, hd]; omega)]; rfl
                · rw [if_neg q, if_pos (by simp [hb, hd]; omega)]; rfl
              · have e : readSeq [a, b, c] 3 = none := by
                  unfold readSeq
                  simp [cRun, hb, hd]
                rw [e]; simp [hd]
            · have e : readSeq [a, b, c] 3 = none := by
                unfold readSeq
                simp [cRun, hb]
              rw [e]; simp [hb]
        · rw [if_neg h4]
          by_cases h5 : a < 248
          · rw [sz4 (by omega)]
            match rest with
            | [] => by_cases h6 : a < 245 <;> simp [readSeq, h6]
            | [b] => by_cases h6 : a < 245 <;> simp [readSeq, h6]
            | [b, c] => by_cases h6 : a < 245 <;> simp [readSeq, h6]
            | b :: c :: d :: r =>
              simp only [List.take_succ_cons, List.take_zero, List.drop_succ_cons, List.drop_zero, hc, hs]
              by_cases hb : 128 ≤ b ∧ b < 192
              · by_cases hd : 128 ≤ c ∧ c < 192
                · by_cases hg : 128 ≤ d ∧ d < 192
                  · have ev : (((a - 240) * 64 + b - 128) * 64 + c - 128) * 64 + d - 128 = a % 8 * 262144 + b % 64 * 4096 + c % 64 * 64 + d % 64 := by omega
                    have e : readSeq [a, b, c, d] 4 = (if (a % 8 * 262144 + b % 64 * 4096 + c % 64 * 64 + d % 64) < 65536 ∨ (55296 ≤ (a % 8 * 262144 + b % 64 * 4096 + c % 64 * 64 + d % 64) ∧ (a % 8 * 262144 + b % 64 * 4096 + c % 64 * 64 + d % 64) ≤ 57343) ∨ 1114111 < (a % 8 * 262144 + b % 64 * 4096 + c % 64 * 64 + d % 64) then none else some (a % 8 * 262144 + b % 64 * 4096 + c % 64 * 64 + d % 64)) := by
                      have ec : cRun [b, c, d] (a - leads 4) = some (a % 8 * 262144 + b % 64 * 4096 + c % 64 * 64 + d % 64) := by
                        show (if _ then (if _ then (if _ then some ((((a - 240) * 64 + b - 128) * 64 + c - 128) * 64 + d - 128) else none) else none) else none) = _
                        rw [if_pos hb, if_pos hd, if_pos hg, ev]
                      show (if [a, b, c, d].length < 4 then none else (cRun [b, c, d] (a - leads 4)).bind _) = _
                      rw [if_neg (by simp), ec]
                      rfl
                    rw [e]
                    have big : ¬ a < 245 → 1114111 < a % 8 * 262144 + b % 64 * 4096 + c % 64 * 64 + d % 64 := by omega
                    generalize hx : a % 8 * 262144 + b % 64 * 4096 + c % 64 * 64 + d % 64 = x at big ⊢
                    by_cases h6 : a < 245
                    · rw [if_pos h6]
                      by_cases q : x < 65536 ∨ (55296 ≤ x ∧ x ≤ 57343) ∨ 1114111 < x
                      · rw [if_pos q, if_neg (by simp [hb, hd, hg]; omega)]; rfl
                      · rw [if_neg q, if_pos (by simp [hb, hd, hg]; omega)]; rfl
                    · rw [if_neg h6, if_pos (by right; right; exact big h6)]; rfl
                  · have e : readSeq [a, b, c, d] 4 = none := by
                      unfold readSeq
                      simp [cRun, hb, hd, hg]
                    rw [e]; simp [hg]
                · have e : readSeq [a, b, c, d] 4 = none := by
                    unfold readSeq
                    simp [cRun, hb, hd]
                  rw [e]; simp [hd]
              · have e : readSeq [a, b, c, d] 4 = none := by
                  unfold readSeq
                  simp [cRun, hb]
                rw [e]; simp [hb]
          · rw [if_neg (by omega), sz0 (by omega)]
theorem decode_shorter {bs : List Nat} {c : Nat} {r : List Nat} (h : Kh450.decodeUtf8 bs = some (c, r)) : r.length < bs.length := by
  cases bs with
  | nil => cases h
  | cons a rest =>
    rw [decode_eq] at h
    cases e : seqSize a with
    | none => rw [e] at h; cases h
    | some n =>
      rw [e] at h
      have hn : 1 ≤ n := by
        unfold seqSize at e
        split at e
        · cases e; decide
        · split at e
          · cases e; decide
          · split at e
            · cases e; decide
            · split at e
              · cases e; decide
              · cases e
      cases q : readSeq ((a :: rest).take n) n with
      | none => simp only [q] at h; cases h
      | some c' =>
        simp only [q] at h
        cases h
        rw [List.length_drop, List.length_cons]
        omega
theorem loop_fuel : ∀ (f g : Nat) (bs : List Nat), bs.length ≤ f → bs.length ≤ g → Kh450.decodeAllLoop f bs = Kh450.decodeAllLoop g bs
  | 0, 0, _, _, _ => rfl
  | _, _, [], _, _ => by unfold Kh450.decodeAllLoop; rfl
  | 0, _ + 1, a :: r, h, _ => absurd h (by simp)
  | _ + 1, 0, a :: r, _, h => absurd h (by simp)
  | f + 1, g + 1, a :: r, hf, hg => by
    unfold Kh450.decodeAllLoop
    cases e : Kh450.decodeUtf8 (a :: r) with
    | none => rfl
    | some p =>
      obtain ⟨c, rest⟩ := p
      have hl := decode_shorter e
      simp only [List.length_cons] at hl hf hg
      simp only
      rw [loop_fuel f g rest (by omega) (by omega)]
theorem all_nil : Kh450.decodeAll [] = some [] := rfl
theorem all_cons (a : Nat) (r : List Nat) : Kh450.decodeAll (a :: r) = (match Kh450.decodeUtf8 (a :: r) with
    | none => none
    | some p => (Kh450.decodeAll p.2).map fun t => p.1 :: t) := by
  unfold Kh450.decodeAll
  show (match Kh450.decodeUtf8 (a :: r) with
    | none => none
    | some (c, rest) => (Kh450.decodeAllLoop r.length rest).map fun codes => c :: codes) = _
  cases e : Kh450.decodeUtf8 (a :: r) with
  | none => rfl
  | some p =>
    obtain ⟨c, rest⟩ := p
    have hl := decode_shorter e
    simp only [List.length_cons] at hl ⊢
    rw [loop_fuel r.length rest.length rest (by omega) (Nat.le_refl _)]
theorem all_step (a : Nat) (r : List Nat) : Kh450.decodeAll (a :: r) = (match seqSize a with
    | none => none
    | some n => (match readSeq ((a :: r).take n) n with
      | none => none
      | some c => (Kh450.decodeAll ((a :: r).drop n)).map fun t => c :: t)) := by
  rw [all_cons, decode_eq]
  cases seqSize a with
  | none => rfl
  | some n =>
    cases e : readSeq ((a :: r).take n) n with
    | none => simp only [e]; rfl
    | some c => simp only [e]; rfl
/-- bounds that the walk asks for -/
theorem seqSize_cases {a n : Nat} (h : seqSize a = some n) : (n = 1 ∨ n = 2 ∨ n = 3 ∨ n = 4) ∧ leads n ≤ a := by
  unfold seqSize at h
  split at h
  · cases h; exact ⟨.inl rfl, by simp [leads]⟩
  · split at h
    · cases h; exact ⟨.inr (.inl rfl), by simp only [leads, List.getD_cons_succ, List.getD_cons_zero]; omega⟩
    · split at h
      · cases h; exact ⟨.inr (.inr (.inl rfl)), by simp only [leads, List.getD_cons_succ, List.getD_cons_zero]; omega⟩
      · split at h
        · cases h; exact ⟨.inr (.inr (.inr rfl)), by simp only [leads, List.getD_cons_succ, List.getD_cons_zero]; omega⟩
        · cases h
theorem decode_len : ∀ (n : Nat) (bs t : List Nat), bs.length ≤ n → Kh450.decodeAll bs = some t → t.length ≤ bs.length
  | _, [], t, _, h => by
    rw [all_nil] at h; cases h; simp
  | 0, a :: r, t, h, _ => absurd h (by simp)
  | n + 1, a :: r, t, hn, h => by
    rw [all_cons] at h
    cases e : Kh450.decodeUtf8 (a :: r) with
    | none => rw [e] at h; cases h
    | some p =>
      have hl := decode_shorter (bs := a :: r) (c := p.1) (r := p.2) e
      rw [e] at h
      simp only at h
      cases q : Kh450.decodeAll p.2 with
      | none => rw [q] at h; cases h
      | some t' =>
        rw [q] at h
        cases h
        simp only [List.length_cons] at hl hn ⊢
        have := decode_len n p.2 t' (by omega) q
        omega
end Pm

namespace Pm
open Kh450 (Text)
open Kh455 (raiseAt levelsOf Pattern)

/-! ### levels -/
/-- what a pattern's levels, laid at i, have at k -/
def lift (i : Nat) (a : List Nat) (k : Nat) : Nat := if k < i then 0 else a.getD (k - i) 0
theorem raise_len : ∀ (i : Nat) (a L : List Nat), (raiseAt i a L).length = L.length
  | _, [], L => by cases L <;> simp [raiseAt]
  | 0, x :: a, [] => by simp [raiseAt]
  | _ + 1, x :: a, [] => by simp [raiseAt]
  | 0, x :: a, y :: L => by simp [raiseAt, raise_len 0 a L]
  | i + 1, x :: a, y :: L => by simp [raiseAt, raise_len i (x :: a) L]
theorem raise_get : ∀ (i : Nat) (a L : List Nat) (k : Nat), (raiseAt i a L)[k]? = L[k]?.map fun y => max (lift i a k) y
  | i, [], L, k => by
    have e : raiseAt i [] L = L := by cases L <;> cases i <;> simp [raiseAt]
    rw [e]
    have z : lift i [] k = 0 := by simp [lift]
    simp only [z, Nat.zero_max]
    cases L[k]? <;> rfl
  | 0, x :: a, [], k => by simp [raiseAt]
  | _ + 1, x :: a, [], k => by simp [raiseAt]
  | 0, x :: a, y :: L, 0 => by simp [raiseAt, lift]
  | 0, x :: a, y :: L, k + 1 => by
    have e : raiseAt 0 (x :: a) (y :: L) = max x y :: raiseAt 0 a L := by simp [raiseAt]
    rw [e, List.getElem?_cons_succ, List.getElem?_cons_succ, raise_get 0 a L k]
    have z : lift 0 (x :: a) (k + 1) = lift 0 a k := by simp [lift]
    rw [z]
  | i + 1, x :: a, y :: L, 0 => by simp [raiseAt, lift]
  | i + 1, x :: a, y :: L, k + 1 => by
    have e : raiseAt (i + 1) (x :: a) (y :: L) = y :: raiseAt i (x :: a) L := by simp [raiseAt]
    rw [e, List.getElem?_cons_succ, List.getElem?_cons_succ, raise_get i (x :: a) L k]
    have z : lift (i + 1) (x :: a) (k + 1) = lift i (x :: a) k := by
      unfold lift
      by_cases h : k < i
      · rw [if_pos (by omega), if_pos h]
      · rw [if_neg (by omega), if_neg h]
        congr 1
        omega
    rw [z]
theorem raise_comm (i j : Nat) (a b L : List Nat) : raiseAt i a (raiseAt j b L) = raiseAt j b (raiseAt i a L) := by
  apply List.ext_getElem?
  intro k
  rw [raise_get, raise_get, raise_get, raise_get]
  cases L[k]? with
  | none => rfl
  | some y =>
    simp only [Option.map_some]
    congr 1
    omega
/-- the innermost loop: k levels of the pattern are laid -/
theorem raise_more {i k : Nat} {a L : List Nat} {x y : Nat} (ha : a[k]? = some x) (hL : (raiseAt i (a.take k) L)[i + k]? = some y) : (raiseAt i (a.take k) L).set (i + k) (max y x) = raiseAt i (a.take (k + 1)) L := by
  apply List.ext_getElem?
  intro m
  have hlt : i + k < (raiseAt i (a.take k) L).length := by
    rw [List.getElem?_eq_some_iff] at hL
    exact hL.1
  have hk : k < a.length := by
    rw [List.getElem?_eq_some_iff] at ha
    exact ha.1
  have l1 : ∀ n, lift i (a.take k) n = if n < i + k then lift i a n else 0 := fun n => by
    unfold lift
    by_cases h : n < i
    · simp [h, show n < i + k by omega]
    · rw [if_neg h, if_neg h]
      by_cases h2 : n < i + k
      · rw [if_pos h2, List.getD_eq_getElem?_getD, List.getD_eq_getElem?_getD, List.getElem?_take, if_pos (by omega)]
      · rw [if_neg h2, List.getD_eq_getElem?_getD, List.getElem?_take, if_neg (by omega)]
        rfl
  have l2 : ∀ n, lift i (a.take (k + 1)) n = if n < i + k + 1 then lift i a n else 0 := fun n => by
    unfold lift
    by_cases h : n < i
    · simp [h, show n < i + k + 1 by omega]
    · rw [if_neg h, if_neg h]
      by_cases h2 : n < i + k + 1
      · rw [if_pos h2, List.getD_eq_getElem?_getD, List.getD_eq_getElem?_getD, List.getElem?_take, if_pos (by omega)]
      · rw [if_neg h2, List.getD_eq_getElem?_getD, List.getElem?_take, if_neg (by omega)]
        rfl
  by_cases hm : i + k = m
  · subst hm
    rw [List.getElem?_set_self hlt]
    rw [raise_get] at hL ⊢
    have hla : lift i a (i + k) = x := by
      unfold lift
      rw [if_neg (by omega), show i + k - i = k by omega, List.getD_eq_getElem?_getD, ha]
      rfl
    rw [l1, if_neg (by omega)] at hL
    rw [l2, if_pos (by omega), hla]
    cases q : L[i + k]? with
    | none => rw [q] at hL; cases hL
    | some z =>
      rw [q] at hL
      simp only [Option.map_some, Nat.zero_max, Option.some.injEq] at hL ⊢
      subst hL
      omega
  · rw [List.getElem?_set_ne hm, raise_get, raise_get, l1, l2]
    by_cases h : m < i + k
    · rw [if_pos h, if_pos (by omega)]
    · rw [if_neg h, if_neg (by omega)]

/-- one pattern laid at one place, if its letters stand there -/
def lay (dotted : Text) (p : Pattern) (i : Nat) (L : List Nat) : List Nat :=
  if (dotted.drop i).take p.letters.length = p.letters then raiseAt i p.levels L else L
theorem lay_comm (d : Text) (p q : Pattern) (i j : Nat) (L : List Nat) : lay d p i (lay d q j L) = lay d q j (lay d p i L) := by
  unfold lay
  by_cases h1 : (d.drop i).take p.letters.length = p.letters <;> by_cases h2 : (d.drop j).take q.letters.length = q.letters
  · simp only [if_pos h1, if_pos h2]; exact raise_comm ..
  · simp only [if_pos h1, if_neg h2]
  · simp only [if_neg h1, if_pos h2]
  · simp only [if_neg h1, if_neg h2]
theorem lay_len (d : Text) (p : Pattern) (i : Nat) (L : List Nat) : (lay d p i L).length = L.length := by
  unfold lay
  split
  · exact raise_len ..
  · rfl
theorem prefix_take : ∀ (l t : List Nat), l.isPrefixOf t = decide (t.take l.length = l)
  | [], t => by simp
  | a :: l, [] => by simp
  | a :: l, b :: t => by
    simp only [List.isPrefixOf_cons₂, List.length_cons, List.take_succ_cons, List.cons.injEq, prefix_take l t]
    by_cases h : a = b
    · subst h; simp
    · have h' : ¬ b = a := fun e => h e.symm
      simp [h, h']
/-- the program's order: pattern by pattern -/
def levelsPy (ps : List Pattern) (d : Text) : List Nat :=
  ps.foldl (fun L p => (List.range (d.length + 1 - p.letters.length)).foldl (fun L i => lay d p i L) L) (List.replicate (d.length + 1) 0)
theorem fold_comm {α σ : Type} (f : α → σ → σ) (g : σ → σ) (h : ∀ a s, f a (g s) = g (f a s)) : ∀ (l : List α) (s : σ), l.foldl (fun s a => f a s) (g s) = g (l.foldl (fun s a => f a s) s)
  | [], _ => rfl
  | a :: l, s => by
    rw [List.foldl_cons, List.foldl_cons, h, fold_comm f g h l]
theorem fold_swap {α β σ : Type} (f : α → β → σ → σ) (hc : ∀ a b a' b' s, f a b (f a' b' s) = f a' b' (f a b s)) : ∀ (l : List α) (m : List β) (s : σ),
    l.foldl (fun s a => m.foldl (fun s b => f a b s) s) s = m.foldl (fun s b => l.foldl (fun s a => f a b s) s) s
  | [], m, s => by
    induction m generalizing s with
    | nil => rfl
    | cons b m ih => exact ih s
  | a :: l, m, s => by
    rw [List.foldl_cons, fold_swap f hc l m]
    induction m generalizing s with
    | nil => rfl
    | cons b m ih =>
      rw [List.foldl_cons, List.foldl_cons, List.foldl_cons, List.foldl_cons]
      have e : l.foldl (fun s a => f a b s) ((m.foldl (fun s b => f a b s) (f a b s))) = m.foldl (fun s b => f a b s) (l.foldl (fun s a => f a b s) (f a b s)) := by
        clear ih
        generalize f a b s = s'
        induction m generalizing s' with
        | nil => rfl
        | cons b' m ih2 =>
          rw [List.foldl_cons, List.foldl_cons]
          rw [ih2]
          rw [fold_comm (fun x s => f x b s) (f a b') (fun x s => hc _ _ _ _ _) l s']
      rw [e, ih]
theorem lay_far {d : Text} {p : Pattern} (hp : p.letters ≠ []) : ∀ (i : Nat) (L : List Nat), d.length + 1 - p.letters.length ≤ i → lay d p i L = L := fun i L h => by
  unfold lay
  rw [if_neg]
  intro e
  have := congrArg List.length e
  rw [List.length_take, List.length_drop] at this
  have : 0 < p.letters.length := List.length_pos_iff.mpr hp
  omega
theorem fold_range_far {σ : Type} (f : Nat → σ → σ) {a : Nat} (h : ∀ i s, a ≤ i → f i s = s) : ∀ (b : Nat), a ≤ b → ∀ s, (List.range b).foldl (fun s i => f i s) s = (List.range a).foldl (fun s i => f i s) s
  | 0, hb, s => by
    have : a = 0 := by omega
    subst this; rfl
  | b + 1, hb, s => by
    by_cases e : a = b + 1
    · subst e; rfl
    · rw [List.range_succ, List.foldl_append, fold_range_far f h b (by omega)]
      exact h b _ (by omega)
theorem levels_eq (ps : List Pattern) (d : Text) (h : ∀ p ∈ ps, p.letters ≠ []) : levelsPy ps d = levelsOf ps d := by
  unfold levelsPy levelsOf
  have e1 : (List.range d.length).foldl (fun levels i => ps.foldl (fun levels p => if p.letters.isPrefixOf (d.drop i) then raiseAt i p.levels levels else levels) levels) (List.replicate (d.length + 1) 0)
      = (List.range d.length).foldl (fun L i => ps.foldl (fun L p => lay d p i L) L) (List.replicate (d.length + 1) 0) := by
    congr 1
    funext L i
    congr 1
    funext L p
    rw [prefix_take]
    unfold lay
    by_cases h : (d.drop i).take p.letters.length = p.letters <;> simp [h]
  rw [e1, fold_swap (fun i p L => lay d p i L) (fun a b a' b' s => lay_comm ..)]
  generalize List.replicate (d.length + 1) 0 = L0
  induction ps generalizing L0 with
  | nil => rfl
  | cons p ps ih =>
    rw [List.foldl_cons, List.foldl_cons, ih (fun q hq => h q (List.mem_cons_of_mem _ hq))]
    · congr 1
      refine (fold_range_far (fun i L => lay d p i L) (fun i s hi => lay_far (h p List.mem_cons_self) i s hi) d.length ?_ L0).symm
      have : 0 < p.letters.length := List.length_pos_iff.mpr (h p List.mem_cons_self)
      omega
    · have e1' := e1
      clear ih e1
      congr 1
      funext L i
      congr 1
      funext L p
      rw [prefix_take]
      unfold lay
      by_cases h : (d.drop i).take p.letters.length = p.letters <;> simp [h]
/-! ### positions -/
theorem range_between (q : Nat → Bool) (a b N : Nat) (hb : b ≤ N) : (List.range N).filter (fun k => decide (a ≤ k) && decide (k < b) && q k) = ((List.range (b - a)).map (a + ·)).filter q := by
  induction N generalizing b with
  | zero =>
    have : b - a = 0 := by omega
    simp [this]
  | succ N ih =>
    rw [List.range_succ, List.filter_append]
    by_cases hN : b ≤ N
    · rw [ih b hN]
      have : ¬ N < b := by omega
      simp [this]
    · have hb' : b = N + 1 := by omega
      subst hb'
      have e : (List.range N).filter (fun k => decide (a ≤ k) && decide (k < N + 1) && q k) = (List.range N).filter (fun k => decide (a ≤ k) && decide (k < N) && q k) := by
        apply List.filter_congr
        intro k hk
        have := List.mem_range.mp hk
        simp [this, show k < N + 1 by omega]
      rw [e, ih N (Nat.le_refl _)]
      by_cases ha : a ≤ N
      · have : N + 1 - a = (N - a) + 1 := by omega
        rw [this, List.range_succ, List.map_append, List.filter_append]
        congr 1
        have : a + (N - a) = N := by omega
        simp [ha, this, List.filter_cons]
      · have h1 : N + 1 - a = 0 := by omega
        have h2 : N - a = 0 := by omega
        rw [h1, h2]
        simp [ha]
theorem hyphenate_eq (ps : List Pattern) (w : Text) (hp : ∀ p ∈ ps, p.letters ≠ []) : Kh455.hyphenate ps w =
    if w.all Kh455.isLetter then ((List.range (w.length - 3)).map (2 + ·)).filter (fun k => (levelsPy ps ([46] ++ w.map Kh450.lowerCase ++ [46])).getD (k + 1) 0 % 2 == 1) else [] := by
  unfold Kh455.hyphenate
  by_cases h : w.all Kh455.isLetter = true
  · rw [if_neg (by simp [h]), if_pos h]
    dsimp only
    rw [levels_eq _ _ hp]
    by_cases hw : 2 ≤ w.length
    · have := range_between (fun k => (levelsOf ps ([46] ++ w.map Kh450.lowerCase ++ [46])).getD (k + 1) 0 % 2 == 1) 2 (w.length - 1) (w.length + 1) (by omega)
      rw [show w.length - 3 = w.length - 1 - 2 by omega, ← this]
      apply List.filter_congr
      intro k _
      have : decide (k + 2 ≤ w.length) = decide (k < w.length - 1) := by
        by_cases h1 : k + 2 ≤ w.length
        · rw [decide_eq_true h1, decide_eq_true (by omega)]
        · rw [decide_eq_false h1, decide_eq_false (by omega)]
      rw [this]
    · have h1 : w.length - 3 = 0 := by omega
      rw [h1]
      simp only [List.range_zero, List.map_nil, List.filter_nil]
      rw [List.filter_eq_nil_iff]
      intro k _
      have : ¬ k + 2 ≤ w.length ∨ ¬ 2 ≤ k := by omega
      rcases this with q | q <;> simp [q]
  · rw [if_pos (by simp [h]), if_neg h]
/-! ### the whole -/
def nats (l : List Int) : List Nat := l.map Int.toNat
theorem pats_letters : ∀ (ws : List Text) (ps : List Pattern), pats ws = some ps → ∀ p ∈ ps, p.letters ≠ [] ∧ p.levels.length = p.letters.length + 1
  | [], ps, h, p, hp => by
    cases h; cases hp
  | w :: r, ps, h, p, hp => by
    unfold pats at h
    cases e : patOf w with
    | none => rw [e] at h; cases h
    | some q =>
      cases e2 : pats r with
      | none => rw [e, e2] at h; cases h
      | some l =>
        rw [e, e2] at h
        cases h
        rcases List.mem_cons.mp hp with z | z
        · subst z
          unfold patOf at e
          cases e3 : Kh455.readPattern w with
          | none => rw [e3] at e; cases e
          | some p' =>
            rw [e3] at e
            simp only at e
            by_cases h4 : p'.letters.isEmpty = true
            · rw [if_pos h4] at e; cases e
            · rw [if_neg h4] at e
              cases e
              exact ⟨fun z => h4 (by rw [z]; rfl), read_levels w p e3⟩
        · exact pats_letters r l e2 p z
def asInts (l : List Nat) : List Int := l.map Int.ofNat
/-- what hyphenate answers -/
theorem top_eq (a b : List Int) : PyKh455.hyphenate a b = (match Kh450.decodeAll (nats a) with
    | none => [-24]
    | some t => match pats (Kh455.wordsOf t) with
      | none => [-21]
      | some ps => match Kh450.decodeAll (nats b) with
        | none => [-24]
        | some w => ((Kh455.hyphenate ps w).length : Int) :: asInts (Kh455.hyphenate ps w)) := by
  show Kh455Neutral.integers (Kh455.answer (.hyphenate (nats a) (nats b))) = _
  unfold Kh455.answer
  show Kh455Neutral.integers (Kh455.withPatterns (nats a) _) = _
  unfold Kh455.withPatterns Kh450.withText
  cases Kh450.decodeAll (nats a) with
  | none => rfl
  | some t =>
    show Kh455Neutral.integers (match Kh455.readPatterns t with | none => _ | some p => _) = _
    rw [readPatterns_eq]
    show _ = (match pats (Kh455.wordsOf t) with
      | none => [-21]
      | some ps => match Kh450.decodeAll (nats b) with
        | none => [-24]
        | some w => ((Kh455.hyphenate ps w).length : Int) :: asInts (Kh455.hyphenate ps w))
    cases pats (Kh455.wordsOf t) with
    | none => rfl
    | some ps =>
      show Kh455Neutral.integers (match Kh450.decodeAll (nats b) with | none => _ | some p => _) = _
      cases Kh450.decodeAll (nats b) with
      | none => rfl
      | some w => rfl
end Pm

namespace Pm
open Kh455 (Piece Joint splitHyphens cutAt partPieces wordPieces pieces lineText Pattern)

/-! ### parts of a word -/
/-- letters ahead of the first part -/
def ahead (x : List Nat) : List (List Nat) → List (List Nat)
  | [] => []
  | f :: o => (x ++ f) :: o
theorem split_full : ∀ t : List Nat, splitHyphens t ≠ []
  | [] => by simp [splitHyphens]
  | c :: r => by
    unfold splitHyphens
    dsimp only
    split
    · simp
    · split <;> simp
theorem split_cut {c d : Nat} {r : List Nat} (h1 : c = 45) (h2 : d ≠ 45) : splitHyphens (c :: d :: r) = [c] :: splitHyphens (d :: r) := by
  conv => lhs; unfold splitHyphens
  dsimp only
  rw [if_pos]
  refine ⟨h1, rfl, ?_⟩
  intro z
  exact h2 (Option.some.inj z)
theorem split_keep {c d : Nat} {r : List Nat} (h : ¬ (c = 45 ∧ d ≠ 45)) : splitHyphens (c :: d :: r) = ahead [c] (splitHyphens (d :: r)) := by
  conv => lhs; unfold splitHyphens
  dsimp only
  rw [if_neg]
  · cases e : splitHyphens (d :: r) with
    | nil => exact absurd e (split_full _)
    | cons f o => rfl
  · rintro ⟨h1, _, h3⟩
    exact h ⟨h1, fun z => h3 (by rw [z]; rfl)⟩
theorem ahead_nil {l : List (List Nat)} : ahead [] l = l := by
  cases l <;> rfl
theorem ahead_ahead (x y : List Nat) (l : List (List Nat)) : ahead x (ahead y l) = ahead (x ++ y) l := by
  cases l with
  | nil => rfl
  | cons f o =>
    show (x ++ (y ++ f)) :: o = _
    rw [← List.append_assoc]
    rfl
/-- the loop of parts_of: the parts that are ended, where the one under way starts; at the place j -/
def SplitAt (w : List Nat) (P : List (List Nat)) (start j : Nat) : Prop := start ≤ j ∧ splitHyphens w = P ++ ahead ((w.drop start).take (j - start)) (splitHyphens (w.drop j))
theorem split_start (w : List Nat) : SplitAt w [] 0 0 := ⟨Nat.le_refl _, by simp [ahead_nil]⟩
theorem take_snoc {w : List Nat} {start j c : Nat} (h : start ≤ j) (hc : w[j]? = some c) : (w.drop start).take (j - start) ++ [c] = (w.drop start).take (j + 1 - start) := by
  have e : j + 1 - start = j - start + 1 := by omega
  rw [e, List.take_add_one]
  have q : (w.drop start)[j - start]? = some c := by
    rw [List.getElem?_drop, show start + (j - start) = j by omega]
    exact hc
  rw [q]
  rfl
theorem split_step {w : List Nat} {P : List (List Nat)} {start j c d : Nat} (h : SplitAt w P start j) (hc : w[j]? = some c) (hd : w[j + 1]? = some d) :
    SplitAt w (if c = 45 ∧ d ≠ 45 then P ++ [(w.drop start).take (j + 1 - start)] else P) (if c = 45 ∧ d ≠ 45 then j + 1 else start) (j + 1) := by
  obtain ⟨h1, h2⟩ := h
  have hj : w.drop j = c :: w.drop (j + 1) := by
    obtain ⟨hl, e⟩ := List.getElem?_eq_some_iff.mp hc
    rw [← e]
    exact List.drop_eq_getElem_cons hl
  have hj1 : w.drop (j + 1) = d :: w.drop (j + 2) := by
    obtain ⟨hl, e⟩ := List.getElem?_eq_some_iff.mp hd
    rw [← e]
    exact List.drop_eq_getElem_cons hl
  rw [hj, hj1] at h2
  by_cases q : c = 45 ∧ d ≠ 45
  · rw [if_pos q, if_pos q]
    refine ⟨Nat.le_refl _, ?_⟩
    rw [h2, split_cut q.1 q.2, Nat.sub_self, List.take_zero, ahead_nil, ← hj1, ← take_snoc h1 hc]
    show P ++ (_ :: _) = _
    rw [List.append_assoc]
    rfl
  · rw [if_neg q, if_neg q]
    refine ⟨Nat.le_succ_of_le h1, ?_⟩
    rw [h2, split_keep q, ahead_ahead, take_snoc h1 hc, ← hj1]
theorem split_end {w : List Nat} {P : List (List Nat)} {start : Nat} (h : SplitAt w P start (w.length - 1)) : splitHyphens w = P ++ [w.drop start] := by
  obtain ⟨h1, h2⟩ := h
  rw [h2]
  congr 1
  cases w with
  | nil => simp [splitHyphens, ahead]
  | cons a r =>
    have hl : (a :: r).length - 1 < (a :: r).length := by simp
    have hc := List.getElem?_eq_getElem hl
    have hj := List.drop_eq_getElem_cons hl
    generalize (a :: r)[(a :: r).length - 1] = c at hc hj
    have hn : (a :: r).drop ((a :: r).length - 1 + 1) = [] := by
      apply List.drop_eq_nil_of_le
      omega
    rw [hn] at hj
    rw [hj]
    have e : splitHyphens [c] = [[c]] := by simp [splitHyphens]
    rw [e]
    show [_ ++ [c]] = _
    rw [take_snoc h1 hc]
    congr 1
    apply List.take_of_length_le
    rw [List.length_drop]
    omega
/-- the parts are not longer than the word, and none is empty -/
theorem split_parts : ∀ (t : List Nat), ∀ p ∈ splitHyphens t, p.length ≤ t.length ∧ (t ≠ [] → p ≠ [])
  | [], p, h => by
    simp [splitHyphens] at h
    subst h
    simp
  | [c], p, h => by
    simp [splitHyphens] at h
    subst h
    simp
  | c :: d :: r, p, h => by
    have ih := split_parts (d :: r)
    by_cases q : c = 45 ∧ d ≠ 45
    · rw [split_cut q.1 q.2] at h
      rcases List.mem_cons.mp h with z | z
      · subst z
        simp
      · obtain ⟨h1, h2⟩ := ih p z
        exact ⟨Nat.le_succ_of_le h1, fun _ => h2 (by simp)⟩
    · rw [split_keep q] at h
      cases e : splitHyphens (d :: r) with
      | nil => exact absurd e (split_full _)
      | cons f o =>
        rw [e] at h ih
        rcases List.mem_cons.mp h with z | z
        · subst z
          obtain ⟨h1, _⟩ := ih f List.mem_cons_self
          exact ⟨by simp only [List.length_append, List.length_cons, List.length_nil] at h1 ⊢; omega, fun _ => by simp⟩
        · obtain ⟨h1, h2⟩ := ih p (List.mem_cons_of_mem _ z)
          exact ⟨Nat.le_succ_of_le h1, fun _ => h2 (by simp)⟩
theorem split_count : ∀ (t : List Nat), (splitHyphens t).length ≤ t.length + 1
  | [] => by simp [splitHyphens]
  | [c] => by simp [splitHyphens]
  | c :: d :: r => by
    have ih := split_count (d :: r)
    by_cases q : c = 45 ∧ d ≠ 45
    · rw [split_cut q.1 q.2]
      simp only [List.length_cons] at ih ⊢
      omega
    · rw [split_keep q]
      cases e : splitHyphens (d :: r) with
      | nil => exact absurd e (split_full _)
      | cons f o =>
        rw [e] at ih
        simp only [List.length_cons, ahead] at ih ⊢
        omega

/-! ### pieces of a part -/
def cuts (last : Joint) : Nat → List Nat → List Nat → List Piece
  | _, [], t => [⟨t, last⟩]
  | start, p :: r, t => ⟨t.take (p - start), .hyphen⟩ :: cuts last p r (t.drop (p - start))
theorem cutAt_full : ∀ (s : Nat) (l t : List Nat), cutAt s l t ≠ []
  | _, [], t => by simp [cutAt]
  | _, _ :: _, t => by simp [cutAt]
theorem cuts_zip (last : Joint) : ∀ (l : List Nat) (s : Nat) (t : List Nat) (k : Nat),
    ((cutAt s l t).zipIdx k).map (fun p => (⟨p.1, if p.2 + 1 = k + (cutAt s l t).length then last else .hyphen⟩ : Piece)) = cuts last s l t
  | [], s, t, k => by simp [cutAt, cuts]
  | p :: r, s, t, k => by
    have ih := cuts_zip last r p (t.drop (p - s)) (k + 1)
    have e : cutAt s (p :: r) t = t.take (p - s) :: cutAt p r (t.drop (p - s)) := rfl
    have ne : 0 < (cutAt p r (t.drop (p - s))).length := List.length_pos_iff.mpr (cutAt_full _ _ _)
    rw [e, List.zipIdx_cons, List.map_cons, List.length_cons]
    show _ :: _ = _ :: _
    rw [if_neg (by omega)]
    congr 1
    rw [← ih]
    congr 1
    funext q
    rw [show k + ((cutAt p r (t.drop (p - s))).length + 1) = k + 1 + (cutAt p r (t.drop (p - s))).length by omega]
theorem partPieces_eq (ps : List Pattern) (part : List Nat) (last : Joint) : partPieces ps part last = cuts last 0 (Kh455.hyphenate ps part) part := by
  have h := cuts_zip last (Kh455.hyphenate ps part) 0 part 0
  unfold partPieces
  rw [← h]
  dsimp only
  congr 1
  funext q
  rw [Nat.zero_add]
/-- positions in a word stand in order, between 2 letters at each end -/
def Rising : Nat → List Nat → Prop
  | _, [] => True
  | s, p :: r => s < p ∧ Rising p r
theorem rising_filter (q : Nat → Bool) : ∀ (n a s : Nat), s < a → Rising s (((List.range n).map (a + ·)).filter q)
  | 0, a, s, h => trivial
  | n + 1, a, s, h => by
    rw [List.range_succ_eq_map, List.map_cons, List.map_map, List.filter_cons]
    have e : (List.range n).map ((a + ·) ∘ Nat.succ) = (List.range n).map ((a + 1) + ·) := by
      apply List.map_congr_left
      intro x _
      show a + (x + 1) = a + 1 + x
      omega
    rw [e]
    split
    · exact ⟨h, rising_filter q n (a + 1) a (by omega)⟩
    · exact rising_filter q n (a + 1) s (by omega)
theorem hyph_rising (ps : List Pattern) (w : List Nat) (hp : ∀ p ∈ ps, p.letters ≠ []) : Rising 0 (Kh455.hyphenate ps w) ∧ ∀ k ∈ Kh455.hyphenate ps w, k + 2 ≤ w.length := by
  rw [hyphenate_eq ps w hp]
  split
  · refine ⟨rising_filter _ _ _ _ (by decide), fun k hk => ?_⟩
    have := (List.mem_filter.mp hk).1
    obtain ⟨i, hi, e⟩ := List.mem_map.mp this
    have := List.mem_range.mp hi
    omega
  · exact ⟨trivial, fun k hk => by cases hk⟩
theorem hyph_len (ps : List Pattern) (w : List Nat) (hp : ∀ p ∈ ps, p.letters ≠ []) : (Kh455.hyphenate ps w).length ≤ w.length := by
  rw [hyphenate_eq ps w hp]
  split
  · refine Nat.le_trans (List.length_filter_le _ _) ?_
    rw [List.length_map, List.length_range]
    omega
  · exact Nat.zero_le _
/-- no piece of a part is empty; they are not longer than the part -/
theorem cuts_full (last : Joint) : ∀ (l : List Nat) (s : Nat) (t : List Nat), Rising s l → (∀ k ∈ l, k < s + t.length) → t ≠ [] → ∀ p ∈ cuts last s l t, p.content ≠ [] ∧ p.content.length ≤ t.length
  | [], s, t, _, _, ht, p, hp => by
    rw [List.mem_singleton.mp hp]
    exact ⟨ht, Nat.le_refl _⟩
  | q :: r, s, t, hr, hk, ht, p, hp => by
    obtain ⟨h1, h2⟩ := hr
    have hq := hk q List.mem_cons_self
    rcases List.mem_cons.mp hp with z | z
    · subst z
      refine ⟨fun e => ?_, by rw [List.length_take]; omega⟩
      have := congrArg List.length e
      rw [List.length_take, List.length_nil] at this
      omega
    · have hl : (t.drop (q - s)).length = t.length - (q - s) := List.length_drop
      have ih := cuts_full last r q (t.drop (q - s)) h2 (fun k hk' => by
          have := hk k (List.mem_cons_of_mem _ hk')
          rw [hl]
          omega) (fun e => by
          have := congrArg List.length e
          rw [hl, List.length_nil] at this
          omega) p z
      exact ⟨ih.1, by rw [hl] at ih; omega⟩
theorem cuts_count (last : Joint) : ∀ (l : List Nat) (s : Nat) (t : List Nat), (cuts last s l t).length = l.length + 1
  | [], _, _ => rfl
  | p :: r, s, t => by
    show (cuts last p r _).length + 1 = _
    rw [cuts_count last r]
    rfl
/-- the sizes of the pieces are the part's -/
theorem cuts_sum (last : Joint) : ∀ (l : List Nat) (s : Nat) (t : List Nat), ((cuts last s l t).map fun p => p.content.length).sum = t.length
  | [], _, t => by simp [cuts]
  | p :: r, s, t => by
    show (t.take (p - s)).length + ((cuts last p r (t.drop (p - s))).map fun p => p.content.length).sum = t.length
    rw [cuts_sum last r, List.length_take, List.length_drop]
    omega

/-! ### pieces of a word -/
theorem wordPieces_eq (ps : List Pattern) (w : List Nat) {front : List (List Nat)} {last : List Nat} (h : splitHyphens w = front ++ [last]) :
    wordPieces ps w = front.flatMap (fun p => partPieces ps p .plain) ++ partPieces ps last .space := by
  unfold wordPieces
  dsimp only
  rw [h]
  have gen : ∀ (f : List (List Nat)) (k n : Nat), k + f.length + 1 = n → ((f ++ [last]).zipIdx k).flatMap (fun p => partPieces ps p.1 (if p.2 + 1 = n then .space else .plain)) = f.flatMap (fun p => partPieces ps p .plain) ++ partPieces ps last .space := by
    intro f
    induction f with
    | nil =>
      intro k n hn
      simp only [List.nil_append, List.zipIdx_cons, List.zipIdx_nil, List.flatMap_cons, List.flatMap_nil, List.append_nil]
      rw [if_pos (by simpa using hn)]
    | cons a f ih =>
      intro k n hn
      simp only [List.cons_append, List.zipIdx_cons, List.flatMap_cons, List.length_cons] at hn ⊢
      rw [if_neg (by omega), ih (k + 1) n (by omega), List.append_assoc]
  exact gen front 0 (front ++ [last]).length (by simp)
end Pm

namespace Pm
open Kh455 (Piece Joint splitHyphens partPieces wordPieces pieces Pattern)
def sizes (l : List (List Nat)) : Nat := (l.map List.length).sum
def letters (l : List Piece) : Nat := (l.map fun p => p.content.length).sum
theorem sizes_cat (a b : List (List Nat)) : sizes (a ++ b) = sizes a + sizes b := by
  unfold sizes
  rw [List.map_append, List.sum_append]
theorem letters_cat (a b : List Piece) : letters (a ++ b) = letters a + letters b := by
  unfold letters
  rw [List.map_append, List.sum_append]
theorem split_sum : ∀ (t : List Nat), sizes (splitHyphens t) = t.length
  | [] => by simp [splitHyphens, sizes]
  | [c] => by simp [splitHyphens, sizes]
  | c :: d :: r => by
    have ih := split_sum (d :: r)
    by_cases q : c = 45 ∧ d ≠ 45
    · rw [split_cut q.1 q.2]
      show 1 + sizes (splitHyphens (d :: r)) = _
      rw [ih]
      simp only [List.length_cons]
      omega
    · rw [split_keep q]
      cases e : splitHyphens (d :: r) with
      | nil => exact absurd e (split_full _)
      | cons f o =>
        rw [e] at ih
        show ([c] ++ f).length + sizes o = _
        have z : sizes (f :: o) = f.length + sizes o := rfl
        rw [z] at ih
        simp only [List.length_cons, List.length_append, List.length_nil] at ih ⊢
        omega
theorem partPieces_letters (ps : List Pattern) (part : List Nat) (last : Joint) : letters (partPieces ps part last) = part.length := by
  rw [partPieces_eq]
  exact cuts_sum last _ 0 part
theorem partPieces_full (ps : List Pattern) (part : List Nat) (last : Joint) (hp : ∀ p ∈ ps, p.letters ≠ []) (h : part ≠ []) : ∀ p ∈ partPieces ps part last, p.content ≠ [] := by
  rw [partPieces_eq]
  obtain ⟨h1, h2⟩ := hyph_rising ps part hp
  exact fun p q => (cuts_full last _ 0 part h1 (fun k hk => by have := h2 k hk; omega) h p q).1
theorem flat_letters (f : List Nat → List Piece) (hf : ∀ w, letters (f w) = w.length) : ∀ l : List (List Nat), letters (l.flatMap f) = sizes l
  | [] => rfl
  | w :: l => by
    rw [List.flatMap_cons, letters_cat, hf, flat_letters f hf l]
    rfl
theorem front_last {l : List (List Nat)} (h : l ≠ []) : ∃ front last, l = front ++ [last] := ⟨l.dropLast, l.getLast h, (List.dropLast_concat_getLast h).symm⟩
theorem wordPieces_letters (ps : List Pattern) (w : List Nat) : letters (wordPieces ps w) = w.length := by
  obtain ⟨f, a, e⟩ := front_last (split_full w)
  rw [wordPieces_eq ps w e, letters_cat, flat_letters _ (fun p => partPieces_letters ps p .plain), partPieces_letters]
  have := split_sum w
  rw [e, sizes_cat] at this
  have z : sizes [a] = a.length := by simp [sizes]
  omega
theorem wordPieces_full (ps : List Pattern) (w : List Nat) (hp : ∀ p ∈ ps, p.letters ≠ []) (h : w ≠ []) : ∀ p ∈ wordPieces ps w, p.content ≠ [] := by
  obtain ⟨f, a, e⟩ := front_last (split_full w)
  rw [wordPieces_eq ps w e]
  have parts := split_parts w
  rw [e] at parts
  intro p hp'
  rcases List.mem_append.mp hp' with z | z
  · obtain ⟨q, hq, z⟩ := List.mem_flatMap.mp z
    exact partPieces_full ps q .plain hp ((parts q (List.mem_append_left _ hq)).2 h) p z
  · exact partPieces_full ps a .space hp ((parts a (List.mem_append_right _ List.mem_cons_self)).2 h) p z
theorem wRun_sum : ∀ (t : List Nat) (s : List (List Nat) × List Nat), sizes (t.foldl wStep s).1 + (t.foldl wStep s).2.length ≤ sizes s.1 + s.2.length + t.length
  | [], s => Nat.le_refl _
  | c :: r, s => by
    have ih := wRun_sum r (wStep s c)
    have h : sizes (wStep s c).1 + (wStep s c).2.length ≤ sizes s.1 + s.2.length + 1 := by
      unfold wStep
      split
      · split
        · omega
        · simp only [sizes_cat, List.length_nil]
          have z : sizes [s.2] = s.2.length := by simp [sizes]
          omega
      · simp only [List.length_append, List.length_cons, List.length_nil]
        omega
    rw [List.foldl_cons, List.length_cons]
    omega
theorem words_sum (t : List Nat) : sizes (Kh455.wordsOf t) ≤ t.length := by
  rw [← wEnd_all]
  have h := wRun_sum t ([], [])
  unfold wEnd
  have z : sizes ([] : List (List Nat)) = 0 := rfl
  simp only [z, List.length_nil, Nat.zero_add] at h
  split
  · omega
  · rw [sizes_cat]
    have z : ∀ x : List Nat, sizes [x] = x.length := fun x => by simp [sizes]
    rw [z]
    omega
theorem wRun_full : ∀ (t : List Nat) (s : List (List Nat) × List Nat), (∀ w ∈ s.1, w ≠ []) → ∀ w ∈ (t.foldl wStep s).1, w ≠ []
  | [], s, h => h
  | c :: r, s, h => by
    refine wRun_full r (wStep s c) ?_
    unfold wStep
    split
    · split
      · exact h
      · rename_i e
        intro w hw
        rcases List.mem_append.mp hw with z | z
        · exact h w z
        · rw [List.mem_singleton.mp z]
          intro q
          rw [q] at e
          exact e rfl
    · exact h
theorem words_full (t : List Nat) : ∀ w ∈ Kh455.wordsOf t, w ≠ [] := by
  rw [← wEnd_all]
  have h := wRun_full t ([], []) (by simp)
  unfold wEnd
  split
  · exact h
  · rename_i e
    intro w hw
    rcases List.mem_append.mp hw with z | z
    · exact h w z
    · rw [List.mem_singleton.mp z]
      intro q
      rw [q] at e
      exact e rfl
theorem pieces_letters (ps : List Pattern) (t : List Nat) : letters (pieces ps t) ≤ t.length := by
  unfold pieces
  rw [flat_letters _ (wordPieces_letters ps)]
  exact words_sum t
theorem pieces_full (ps : List Pattern) (t : List Nat) (hp : ∀ p ∈ ps, p.letters ≠ []) : ∀ p ∈ pieces ps t, p.content ≠ [] := by
  intro p h
  obtain ⟨w, hw, z⟩ := List.mem_flatMap.mp h
  exact wordPieces_full ps w hp (words_full t w hw) p z
theorem count_le : ∀ (l : List Piece), (∀ p ∈ l, p.content ≠ []) → l.length ≤ letters l
  | [], _ => Nat.zero_le _
  | p :: l, h => by
    have ih := count_le l fun q hq => h q (List.mem_cons_of_mem _ hq)
    have h1 : 0 < p.content.length := List.length_pos_iff.mpr (h p List.mem_cons_self)
    have z : letters (p :: l) = p.content.length + letters l := rfl
    rw [List.length_cons, z]
    omega
theorem content_le : ∀ (l : List Piece), ∀ p ∈ l, p.content.length ≤ letters l
  | q :: l, p, h => by
    have z : letters (q :: l) = q.content.length + letters l := rfl
    rcases List.mem_cons.mp h with e | e
    · rw [e, z]
      omega
    · have := content_le l p e
      omega
end Pm

namespace Pm
open Kh455 (Piece Joint lineText takeLines)
/-! ### the text of a line -/
def mid (p : Piece) : List Nat := p.content ++ (if p.joint = .space then [32] else [])
theorem line_front : ∀ (f : List Piece) (l : Piece), lineText (f ++ [l]) = f.flatMap mid ++ (l.content ++ (if l.joint = .hyphen then [45] else []))
  | [], l => rfl
  | [p], l => by
    show mid p ++ lineText [l] = _
    simp [lineText]
  | p :: q :: f, l => by
    have ih := line_front (q :: f) l
    have e : lineText (p :: q :: f ++ [l]) = mid p ++ lineText (q :: f ++ [l]) := rfl
    rw [e, ih, ← List.append_assoc]
    rfl
/-- the lines of numbers of pieces, each at least one, all of them there -/
def Fits : List Nat → Nat → Prop
  | [], _ => True
  | n :: r, m => 1 ≤ n ∧ n ≤ m ∧ Fits r (m - n)
theorem mid_len (p : Piece) : (mid p).length ≤ p.content.length + 1 := by
  unfold mid
  split <;> simp
theorem mid_sum : ∀ l : List Piece, (l.flatMap mid).length ≤ letters l + l.length
  | [] => Nat.le_refl _
  | p :: l => by
    have ih := mid_sum l
    have h := mid_len p
    have z : letters (p :: l) = p.content.length + letters l := rfl
    rw [List.flatMap_cons, List.length_append, List.length_cons, z]
    omega
theorem line_len (l : List Piece) : (lineText l).length ≤ letters l + l.length := by
  cases e : l with
  | nil => exact Nat.le_refl _
  | cons a r =>
    have ne : l ≠ [] := by
      rw [e]
      exact fun z => nomatch z
    rw [← e]
    have q := (List.dropLast_concat_getLast ne).symm
    generalize l.dropLast = f at q
    generalize l.getLast ne = x at q
    rw [q, line_front, letters_cat]
    have h := mid_sum f
    have z : letters [x] = x.content.length := by simp [letters]
    have hh : (if x.joint = .hyphen then [45] else ([] : List Nat)).length ≤ 1 := by
      split <;> simp
    rw [List.length_append, List.length_append, List.length_append, z]
    simp only [List.length_cons, List.length_nil]
    omega
theorem letters_take_drop (l : List Piece) (i n : Nat) : letters ((l.drop i).take n) ≤ letters l := by
  have e1 : letters l = letters (l.take i) + letters (l.drop i) := by rw [← letters_cat, List.take_append_drop]
  have e2 : letters (l.drop i) = letters ((l.drop i).take n) + letters ((l.drop i).drop n) := by rw [← letters_cat, List.take_append_drop]
  omega
/-! ### bytes -/
/-- how many bytes, as the program finds them -/
def wSize (c : Nat) : Nat := if c < 2048 then 2 else if c < 65536 then 3 else 4
theorem encode_eq (c : Nat) : Kh450.encodeUtf8 c = if c < 128 then [c] else
    (match wSize c with
      | 2 => [192 + c / 64, 128 + c % 64]
      | 3 => [224 + c / 64 / 64, 128 + c / 64 % 64, 128 + c % 64]
      | _ => [240 + c / 64 / 64 / 64, 128 + c / 64 / 64 % 64, 128 + c / 64 % 64, 128 + c % 64]) := by
  unfold Kh450.encodeUtf8 wSize
  by_cases h1 : c < 128
  · rw [if_pos h1, if_pos h1]
  · rw [if_neg h1, if_neg h1]
    by_cases h2 : c < 2048
    · rw [if_pos h2, if_pos h2]
      rfl
    · rw [if_neg h2, if_neg h2]
      by_cases h3 : c < 65536
      · rw [if_pos h3, if_pos h3]
        simp only [Nat.div_div_eq_div_mul]
      · rw [if_neg h3, if_neg h3]
        simp only [Nat.div_div_eq_div_mul]
theorem encode_len (c : Nat) : (Kh450.encodeUtf8 c).length ≤ 4 := by
  unfold Kh450.encodeUtf8
  split
  · simp
  · split
    · simp
    · split <;> simp
theorem encodeAll_len : ∀ t : List Nat, (Kh450.encodeAll t).length ≤ 4 * t.length
  | [] => Nat.le_refl _
  | c :: t => by
    have ih := encodeAll_len t
    have h := encode_len c
    show (Kh450.encodeUtf8 c ++ Kh450.encodeAll t).length ≤ _
    rw [List.length_append, List.length_cons]
    omega
/-! ### lines -/
/-- the loop of answer_lines: the text so far, line by line -/
def joinStep (i : Nat) (acc line : List Nat) : List Nat := (if 0 < i then acc ++ [10] else acc) ++ line
def joinTo (ls : List (List Nat)) : Nat → List Nat
  | 0 => []
  | i + 1 => joinStep i (joinTo ls i) (ls.getD i [])
theorem join_one (s x : List Nat) : Kh450.joinTexts s [x] = x := rfl
theorem join_two (s x y : List Nat) (r : List (List Nat)) : Kh450.joinTexts s (x :: y :: r) = x ++ s ++ Kh450.joinTexts s (y :: r) := rfl
theorem join_snoc (s : List Nat) : ∀ (l : List (List Nat)) (x : List Nat), l ≠ [] → Kh450.joinTexts s (l ++ [x]) = Kh450.joinTexts s l ++ s ++ x
  | [a], x, _ => rfl
  | a :: b :: l, x, _ => by
    have ih := join_snoc s (b :: l) x (fun z => nomatch z)
    show Kh450.joinTexts s (a :: b :: (l ++ [x])) = _
    rw [join_two, join_two]
    rw [List.cons_append] at ih
    rw [ih]
    simp only [List.append_assoc]
theorem joinTo_take (ls : List (List Nat)) : ∀ i, i ≤ ls.length → joinTo ls i = Kh450.joinTexts [10] (ls.take i)
  | 0, _ => rfl
  | i + 1, h => by
    have hi : i < ls.length := h
    have ih := joinTo_take ls i (Nat.le_of_lt hi)
    have e : ls.take (i + 1) = ls.take i ++ [ls.getD i []] := by
      rw [List.take_add_one, List.getD_eq_getElem?_getD, List.getElem?_eq_getElem hi]
      rfl
    show joinStep i (joinTo ls i) (ls.getD i []) = _
    rw [e, ih]
    unfold joinStep
    cases i with
    | zero => rfl
    | succ i =>
      rw [if_pos (Nat.succ_pos _), join_snoc]
      intro z
      have := congrArg List.length z
      rw [List.length_take, List.length_nil] at this
      omega
theorem join_len (ls : List (List Nat)) : (Kh450.joinTexts [10] ls).length ≤ sizes ls + ls.length := by
  induction ls with
  | nil => exact Nat.le_refl _
  | cons a r ih =>
    have z : sizes (a :: r) = a.length + sizes r := rfl
    cases r with
    | nil =>
      rw [join_one, z]
      omega
    | cons b r =>
      rw [join_two, z]
      simp only [List.length_append, List.length_cons, List.length_nil] at ih ⊢
      omega
end Pm

namespace Pm
open Kh455 (Piece Joint lineText takeLines lineCost Breaking better bestFrom bestAll bestBreaking)
theorem fits_len : ∀ (c : List Nat) (m : Nat), Fits c m → c.length ≤ m
  | [], _, _ => Nat.zero_le _
  | n :: r, m, h => by
    obtain ⟨h1, h2, h3⟩ := h
    have := fits_len r _ h3
    rw [List.length_cons]
    omega
/-! ### costs -/
def hyC (j : Joint) : Nat := if j = .hyphen then 50 else 0
def lCost (w len : Nat) (j : Joint) (last : Bool) : Nat := (if w < len then 10000 * (len - w) else if last then 0 else (w - len) ^ 2) + hyC j
/-! ### the lines that are allowed -/
def shownBy (len : Nat) (p : Piece) : Nat := len + p.content.length + (if p.joint = .hyphen then 1 else 0)
def lenBy (len : Nat) (p : Piece) : Nat := len + p.content.length + (if p.joint = .space then 1 else 0)
def allowedGo (w : Nat) : List Piece → Nat → Bool → List Nat
  | [], _, _ => []
  | p :: r, len, first => if first = false ∧ w < shownBy len p then [] else shownBy len p :: allowedGo w r (lenBy len p) false
def allowed (w : Nat) (l : List Piece) : List Nat := allowedGo w l 0 true
theorem allowed_len (w : Nat) : ∀ (l : List Piece) (len : Nat) (b : Bool), (allowedGo w l len b).length ≤ l.length
  | [], _, _ => Nat.le_refl _
  | p :: r, len, b => by
    unfold allowedGo
    split
    · exact Nat.zero_le _
    · have := allowed_len w r (lenBy len p) false
      simp only [List.length_cons]
      omega
/-- the length ahead of the k-th piece, with the spaces behind the pieces -/
def before (l : List Piece) : Nat := (l.flatMap mid).length
theorem before_snoc (l : List Piece) (p : Piece) : before (l ++ [p]) = lenBy (before l) p := by
  unfold before lenBy mid
  rw [List.flatMap_append, List.length_append]
  simp only [List.flatMap_cons, List.flatMap_nil, List.append_nil, List.length_append]
  split <;> simp <;> omega
theorem line_snoc (l : List Piece) (p : Piece) : (lineText (l ++ [p])).length = shownBy (before l) p := by
  rw [line_front]
  unfold before shownBy
  simp only [List.length_append]
  split <;> simp <;> omega
/-- in a line with a further piece, that isn't empty, no less stands than in the line without it -/
theorem line_grows {f : List Piece} {p q : Piece} (hq : q.content ≠ []) : (lineText (f ++ [p])).length ≤ (lineText (f ++ [p] ++ [q])).length := by
  rw [line_snoc, line_snoc, before_snoc]
  have : 0 < q.content.length := List.length_pos_iff.mpr hq
  unfold shownBy lenBy
  split <;> split <;> omega
/-- what the program lists: the lengths of the lines with 1, 2, .. pieces, so long as they are allowed -/
theorem allowed_run (w : Nat) : ∀ (r f : List Piece), (∀ p ∈ r, p.content ≠ []) → ∀ (k : Nat), k < (allowedGo w r (before f) (f.isEmpty)).length →
    k < r.length ∧ (allowedGo w r (before f) (f.isEmpty))[k]? = some ((lineText (f ++ r.take (k + 1))).length) ∧ (f.length + k = 0 ∨ (lineText (f ++ r.take (k + 1))).length ≤ w)
  | [], f, _, k, h => by
    exact absurd h (Nat.not_lt_zero _)
  | p :: r, f, hr, k, h => by
    unfold allowedGo at h ⊢
    by_cases c : f.isEmpty = false ∧ w < shownBy (before f) p
    · rw [if_pos c] at h
      exact absurd h (Nat.not_lt_zero _)
    · rw [if_neg c] at h ⊢
      have e : allowedGo w r (lenBy (before f) p) false = allowedGo w r (before (f ++ [p])) (f ++ [p]).isEmpty := by
        rw [before_snoc]
        cases f <;> rfl
      cases k with
      | zero =>
        refine ⟨Nat.succ_pos _, ?_, ?_⟩
        · show some (shownBy (before f) p) = some (lineText (f ++ [p])).length
          rw [line_snoc]
        · show f.length + 0 = 0 ∨ (lineText (f ++ [p])).length ≤ w
          rw [line_snoc]
          cases f with
          | nil => exact .inl rfl
          | cons a f =>
            right
            exact Nat.le_of_not_lt fun z => c ⟨rfl, z⟩
      | succ k =>
        rw [e] at h ⊢
        have ih := allowed_run w r (f ++ [p]) (fun q hq => hr q (List.mem_cons_of_mem _ hq)) k (by simpa using h)
        refine ⟨Nat.succ_lt_succ ih.1, ?_, ?_⟩
        · show (allowedGo w r (before (f ++ [p])) (f ++ [p]).isEmpty)[k]? = _
          rw [ih.2.1, List.append_assoc]
          rfl
        · right
          have z := ih.2.2
          rw [List.append_assoc] at z
          rcases z with z | z
          · simp at z
          · exact z
/-- all others are not: they are too long, and have several pieces -/
theorem allowed_ends (w : Nat) : ∀ (r f : List Piece), (∀ p ∈ r, p.content ≠ []) → ∀ (k : Nat), (allowedGo w r (before f) (f.isEmpty)).length ≤ k → k < r.length → w < (lineText (f ++ r.take (k + 1))).length ∧ f.length + k ≠ 0
  | [], f, _, k, _, h => absurd h (Nat.not_lt_zero _)
  | p :: r, f, hr, k, h, hk => by
    unfold allowedGo at h
    by_cases c : f.isEmpty = false ∧ w < shownBy (before f) p
    · have hf : f.length ≠ 0 := by
        intro z
        rw [List.length_eq_zero_iff.mp z] at c
        exact absurd c.1 (by simp)
      refine ⟨?_, by omega⟩
      -- from here on they only grow
      have grow : ∀ (t : List Piece) (f : List Piece) (p : Piece), (∀ q ∈ t, q.content ≠ []) → ∀ j, w < (lineText (f ++ [p])).length → w < (lineText (f ++ [p] ++ t.take j)).length := by
        intro t
        induction t with
        | nil =>
          intro f p _ j hw
          simpa using hw
        | cons q t ih =>
          intro f p hq j hw
          cases j with
          | zero => simpa using hw
          | succ j =>
            have g := line_grows (f := f) (p := p) (hq q List.mem_cons_self)
            have := ih (f ++ [p]) q (fun x hx => hq x (List.mem_cons_of_mem _ hx)) j (by omega)
            rw [List.take_succ_cons]
            simpa using this
      have := grow r f p (fun q hq => hr q (List.mem_cons_of_mem _ hq)) k (by rw [line_snoc]; exact c.2)
      rw [List.take_succ_cons]
      simpa using this
    · rw [if_neg c] at h
      have e : allowedGo w r (lenBy (before f) p) false = allowedGo w r (before (f ++ [p])) (f ++ [p]).isEmpty := by
        rw [before_snoc]
        cases f <;> rfl
      rw [e] at h
      cases k with
      | zero => simp at h
      | succ k =>
        have ih := allowed_ends w r (f ++ [p]) (fun q hq => hr q (List.mem_cons_of_mem _ hq)) k (by simpa using h) (by simpa using hk)
        refine ⟨?_, by omega⟩
        have z := ih.1
        rw [List.append_assoc] at z
        rw [List.take_succ_cons]
        exact z
end Pm

namespace Pm
open Kh455 (Piece Joint lineText takeLines lineCost Breaking better bestFrom bestAll bestBreaking)
theorem bestAll_get (w : Nat) : ∀ (l : List Piece) (j : Nat), j ≤ l.length → (bestAll w l)[j]? = some (bestBreaking w (l.drop j))
  | [], j, h => by
    have e : j = 0 := by simpa using h
    subst e
    rfl
  | p :: r, 0, _ => rfl
  | p :: r, j + 1, h => by
    show (bestFrom w (p :: r) (bestAll w r) :: bestAll w r)[j + 1]? = _
    rw [List.getElem?_cons_succ, bestAll_get w r j (by simpa using h)]
    rfl
theorem bestAll_len (w : Nat) : ∀ l : List Piece, (bestAll w l).length = l.length + 1
  | [] => rfl
  | p :: r => by
    show (bestAll w r).length + 1 = _
    rw [bestAll_len w r]
    rfl
/-- the length of the line of the first k + 1 pieces; the joint of its last one -/
def lens (l : List Piece) (k : Nat) : Nat := (lineText (l.take (k + 1))).length
def jointAt (l : List Piece) (k : Nat) : Joint := ((l[k]?).map Piece.joint).getD .space
theorem lineCost_eq {w : Nat} {l : List Piece} (hl : ∀ p ∈ l, p.content ≠ []) {k : Nat} (hk : k < l.length) :
    lineCost w (l.take (k + 1)) (k + 1 == l.length) = if k < (allowed w l).length then some (lCost w (lens l k) (jointAt l k) (decide (k + 1 = l.length))) else none := by
  have hlast : (l.take (k + 1)).getLast?.map Piece.joint = some (jointAt l k) := by
    have e : l.take (k + 1) = l.take k ++ [l[k]] := by
      rw [List.take_add_one, List.getElem?_eq_getElem hk]
      rfl
    rw [e, List.getLast?_append]
    unfold jointAt
    rw [List.getElem?_eq_getElem hk]
    simp
  have hlen : (l.take (k + 1)).length = k + 1 := by
    rw [List.length_take]
    omega
  unfold lineCost
  rw [hlast, hlen]
  dsimp only
  have hb : (k + 1 == l.length) = decide (k + 1 = l.length) := by
    rw [Bool.eq_iff_iff, beq_iff_eq, decide_eq_true_eq]
  have hh : (if some (jointAt l k) = some Joint.hyphen then 50 else 0) = hyC (jointAt l k) := by
    unfold hyC
    by_cases h : jointAt l k = .hyphen
    · rw [if_pos h, if_pos (congrArg some h)]
    · rw [if_neg h, if_neg fun z => h (Option.some.inj z)]
  rw [hb, hh]
  by_cases ha : k < (allowed w l).length
  · rw [if_pos ha]
    obtain ⟨_, _, h3⟩ := allowed_run w l [] hl k ha
    have h3 : k = 0 ∨ lens l k ≤ w := by
      have z := h3
      simp only [List.length_nil, Nat.zero_add, List.nil_append] at z
      exact z
    show (if lens l k ≤ w then _ else _) = _
    unfold lCost
    by_cases hw : lens l k ≤ w
    · rw [if_pos hw, if_neg (Nat.not_lt.mpr hw)]
      rfl
    · have h0 : k + 1 = 1 := by omega
      rw [if_neg hw, if_pos h0, if_pos (Nat.lt_of_not_le hw)]
      rfl
  · rw [if_neg ha]
    obtain ⟨h1, h2⟩ := allowed_ends w l [] hl k (Nat.le_of_not_lt ha) hk
    have h1 : w < lens l k := h1
    have h2 : k ≠ 0 := by simpa using h2
    show (if lens l k ≤ w then _ else _) = _
    rw [if_neg (by omega), if_neg (by omega)]
/-- a line of k + 1 pieces, and the best division of what follows -/
def cand (w : Nat) (l : List Piece) (k : Nat) : Breaking := (lCost w (lens l k) (jointAt l k) (decide (k + 1 = l.length)) + (bestBreaking w (l.drop (k + 1))).1, (k + 1) :: (bestBreaking w (l.drop (k + 1))).2)
def pyBest (w : Nat) (l : List Piece) (i : Nat) : Option Breaking := (List.range i).foldl (fun b k => better b (some (cand w l k))) none
theorem pyBest_succ (w : Nat) (l : List Piece) (i : Nat) : pyBest w l (i + 1) = better (pyBest w l i) (some (cand w l i)) := by
  unfold pyBest
  rw [List.range_succ, List.foldl_append]
  rfl
theorem better_none (a : Option Breaking) : better a none = a := by
  cases a <;> rfl
theorem fold_none : ∀ (n : Nat) (a : Option Breaking), (List.replicate n none).foldl better a = a
  | 0, _ => rfl
  | n + 1, a => by
    rw [List.replicate_succ, List.foldl_cons, better_none, fold_none n a]
theorem best_cons {w : Nat} {p : Piece} {r : List Piece} (hl : ∀ q ∈ p :: r, q.content ≠ []) : bestBreaking w (p :: r) = (pyBest w (p :: r) (allowed w (p :: r)).length).getD (0, []) := by
  show bestFrom w (p :: r) (bestAll w r) = _
  unfold bestFrom
  congr 1
  have hm := allowed_len w (p :: r) 0 true
  have hm : (allowed w (p :: r)).length ≤ (p :: r).length := hm
  generalize hl' : p :: r = l at *
  have ends : (bestAll w r).zipIdx.map (fun q => (lineCost w (l.take (q.2 + 1)) (q.2 + 1 == l.length)).map fun cost => ((cost + q.1.1, (q.2 + 1) :: q.1.2) : Breaking)) =
      (List.range l.length).map fun k => if k < (allowed w l).length then some (cand w l k) else none := by
    apply List.ext_getElem?
    intro k
    rw [List.getElem?_map, List.getElem?_map, List.getElem?_zipIdx]
    have len : (bestAll w r).length = l.length := by
      rw [bestAll_len, ← hl']
      rfl
    by_cases hk : k < l.length
    · have hr : k ≤ r.length := by
        rw [← hl', List.length_cons] at hk
        omega
      rw [bestAll_get w r k hr, List.getElem?_range hk]
      simp only [Option.map_some, Nat.zero_add]
      rw [lineCost_eq hl hk]
      have dr : r.drop k = l.drop (k + 1) := by
        rw [← hl']
        rfl
      rw [dr]
      by_cases ha : k < (allowed w l).length
      · rw [if_pos ha, if_pos ha]
        rfl
      · rw [if_neg ha, if_neg ha]
        rfl
    · rw [List.getElem?_eq_none (by rw [len]; omega), List.getElem?_eq_none (by rw [List.length_range]; omega)]
      rfl
  show List.foldl better none ((bestAll w r).zipIdx.map (fun q => (lineCost w (l.take (q.2 + 1)) (q.2 + 1 == l.length)).map fun cost => ((cost + q.1.1, (q.2 + 1) :: q.1.2) : Breaking))) = _
  rw [ends]
  have split : (List.range l.length).map (fun k => if k < (allowed w l).length then some (cand w l k) else none) =
      ((List.range (allowed w l).length).map fun k => some (cand w l k)) ++ List.replicate (l.length - (allowed w l).length) none := by
    apply List.ext_getElem?
    intro k
    by_cases hk : k < l.length
    · rw [List.getElem?_map, List.getElem?_range hk]
      by_cases ha : k < (allowed w l).length
      · rw [List.getElem?_append_left (by simpa using ha), List.getElem?_map, List.getElem?_range ha]
        simp [ha]
      · rw [List.getElem?_append_right (by simpa using Nat.le_of_not_lt ha)]
        simp only [Option.map_some, if_neg ha, List.length_map, List.length_range]
        rw [List.getElem?_replicate, if_pos (by omega)]
    · rw [List.getElem?_eq_none (by simpa using Nat.le_of_not_lt hk), List.getElem?_eq_none]
      simp only [List.length_append, List.length_map, List.length_range, List.length_replicate]
      omega
  rw [split, List.foldl_append, fold_none, List.foldl_map]
  rfl
/-- the first candidate is always there; whatever is best so far is one of the candidates -/
theorem pyBest_is (w : Nat) (l : List Piece) : ∀ i, 0 < i → ∃ k, k < i ∧ pyBest w l i = some (cand w l k)
  | 0, h => absurd h (Nat.lt_irrefl _)
  | i + 1, _ => by
    rw [pyBest_succ]
    cases i with
    | zero => exact ⟨0, Nat.zero_lt_one, rfl⟩
    | succ i =>
      obtain ⟨k, hk, e⟩ := pyBest_is w l (i + 1) (Nat.succ_pos _)
      rw [e]
      show ∃ k', _ ∧ (if (cand w l (i + 1)).1 ≤ (cand w l k).1 then some (cand w l (i + 1)) else some (cand w l k)) = _
      split
      · exact ⟨i + 1, Nat.lt_succ_self _, rfl⟩
      · exact ⟨k, Nat.lt_succ_of_lt hk, rfl⟩
theorem allowed_pos {w : Nat} {p : Piece} {r : List Piece} : 0 < (allowed w (p :: r)).length := by
  unfold allowed allowedGo
  rw [if_neg (fun z => nomatch z.1)]
  exact Nat.succ_pos _
/-- the best division begins with a line, and goes on with the best division of the rest -/
theorem best_step {w : Nat} {l : List Piece} (hl : ∀ q ∈ l, q.content ≠ []) (ne : l ≠ []) : ∃ k, k < l.length ∧ bestBreaking w l = cand w l k := by
  cases l with
  | nil => exact absurd rfl ne
  | cons p r =>
    obtain ⟨k, hk, e⟩ := pyBest_is w (p :: r) _ (allowed_pos (w := w) (p := p) (r := r))
    refine ⟨k, Nat.lt_of_lt_of_le hk (allowed_len w (p :: r) 0 true), ?_⟩
    rw [best_cons hl, e]
    rfl
theorem best_nil (w : Nat) : bestBreaking w [] = (0, []) := rfl
theorem best_fits (w : Nat) : ∀ (n : Nat) (l : List Piece), l.length ≤ n → (∀ q ∈ l, q.content ≠ []) → Fits (bestBreaking w l).2 l.length
  | _, [], _, _ => trivial
  | 0, p :: r, h, _ => absurd h (by simp)
  | n + 1, p :: r, h, hl => by
    obtain ⟨k, hk, e⟩ := best_step (w := w) hl (fun z => nomatch z)
    rw [e]
    refine ⟨Nat.succ_le_succ (Nat.zero_le _), hk, ?_⟩
    have hd : ((p :: r).drop (k + 1)).length = (p :: r).length - (k + 1) := List.length_drop
    rw [← hd]
    refine best_fits w n _ ?_ fun q hq => hl q (List.mem_of_mem_drop hq)
    rw [hd]
    simp only [List.length_cons] at h ⊢
    omega
end Pm

namespace Pm
open Kh455 (Piece Joint lineText takeLines lineCost Breaking better bestFrom bestAll bestBreaking)
/-- the two tables, known from the place i on -/
structure Known (w : Nat) (ps : List Piece) (i : Nat) (cs fs : List Nat) : Prop where
  cl : cs.length = ps.length + 1
  fl : fs.length = ps.length
  co : ∀ j, i ≤ j → j ≤ ps.length → cs[j]? = some (bestBreaking w (ps.drop j)).1
  fi : ∀ j, i ≤ j → j < ps.length → fs[j]? = some ((bestBreaking w (ps.drop j)).2.headD 0)
theorem Known.start (w : Nat) (ps : List Piece) : Known w ps ps.length (List.replicate (ps.length + 1) 0) (List.replicate ps.length 0) := by
  refine ⟨List.length_replicate, List.length_replicate, fun j h1 h2 => ?_, fun j h1 h2 => by omega⟩
  have e : j = ps.length := by omega
  subst e
  rw [List.drop_length, best_nil, List.getElem?_replicate, if_pos (by omega)]
theorem Known.set {w : Nat} {ps : List Piece} {st : Nat} {cs fs : List Nat} (x : Known w ps (st + 1) cs fs) (a b : Nat) : Known w ps (st + 1) (cs.set st a) (fs.set st b) := by
  refine ⟨by rw [List.length_set, x.cl], by rw [List.length_set, x.fl], fun j h1 h2 => ?_, fun j h1 h2 => ?_⟩
  · rw [List.getElem?_set_ne (by omega), x.co j h1 h2]
  · rw [List.getElem?_set_ne (by omega), x.fi j h1 h2]
/-- what the tables hold at the place st after k lines have been looked at -/
def Sofar (w : Nat) (l : List Piece) (st k : Nat) (cs fs : List Nat) : Prop := k = 0 ∨ ∃ b, pyBest w l k = some b ∧ cs[st]? = some b.1 ∧ fs[st]? = some (b.2.headD 0)
theorem Sofar.take {w : Nat} {l : List Piece} {st k : Nat} {cs fs : List Nat} (hc : st < cs.length) (hf : st < fs.length) (h : k = 0 ∨ ∃ b, pyBest w l k = some b ∧ (cand w l k).1 ≤ b.1) :
    Sofar w l st (k + 1) (cs.set st (cand w l k).1) (fs.set st (k + 1)) := by
  refine .inr ⟨cand w l k, ?_, ?_, ?_⟩
  · rw [pyBest_succ]
    rcases h with h | ⟨b, e, h⟩
    · subst h
      rfl
    · rw [e]
      show (if (cand w l k).1 ≤ b.1 then some (cand w l k) else some b) = _
      rw [if_pos h]
  · rw [List.getElem?_set_self hc]
  · rw [List.getElem?_set_self hf]
    rfl
theorem Sofar.leave {w : Nat} {l : List Piece} {st k : Nat} {cs fs : List Nat} {b : Breaking} (e : pyBest w l k = some b) (h : ¬ (cand w l k).1 ≤ b.1) (hc : cs[st]? = some b.1) (hf : fs[st]? = some (b.2.headD 0)) : Sofar w l st (k + 1) cs fs := by
  refine .inr ⟨b, ?_, hc, hf⟩
  rw [pyBest_succ, e]
  show (if (cand w l k).1 ≤ b.1 then some (cand w l k) else some b) = _
  rw [if_neg h]
theorem Known.done {w : Nat} {ps : List Piece} {st : Nat} {cs fs : List Nat} (hl : ∀ q ∈ ps, q.content ≠ []) (hst : st < ps.length) (x : Known w ps (st + 1) cs fs) (y : Sofar w (ps.drop st) st (allowed w (ps.drop st)).length cs fs) : Known w ps st cs fs := by
  have hd : ps.drop st = ps[st] :: ps.drop (st + 1) := List.drop_eq_getElem_cons hst
  have hb : ∃ b, bestBreaking w (ps.drop st) = b ∧ cs[st]? = some b.1 ∧ fs[st]? = some (b.2.headD 0) := by
    rcases y with y | ⟨b, e, h1, h2⟩
    · rw [hd] at y
      have := allowed_pos (w := w) (p := ps[st]) (r := ps.drop (st + 1))
      omega
    · refine ⟨b, ?_, h1, h2⟩
      rw [hd] at e ⊢
      rw [best_cons fun q hq => hl q (List.mem_of_mem_drop (i := st) (by rw [hd]; exact hq)), e]
      rfl
  obtain ⟨b, e, h1, h2⟩ := hb
  refine ⟨x.cl, x.fl, fun j g1 g2 => ?_, fun j g1 g2 => ?_⟩
  · by_cases h : j = st
    · subst h
      rw [e, h1]
    · exact x.co j (by omega) g2
  · by_cases h : j = st
    · subst h
      rw [e, h2]
    · exact x.fi j (by omega) g2
/-- the counts, one behind the other -/
theorem best_next {w : Nat} {ps : List Piece} (hl : ∀ q ∈ ps, q.content ≠ []) {at_ : Nat} (h : at_ < ps.length) :
    1 ≤ (bestBreaking w (ps.drop at_)).2.headD 0 ∧ at_ + (bestBreaking w (ps.drop at_)).2.headD 0 ≤ ps.length ∧
    (bestBreaking w (ps.drop at_)).2 = (bestBreaking w (ps.drop at_)).2.headD 0 :: (bestBreaking w (ps.drop (at_ + (bestBreaking w (ps.drop at_)).2.headD 0))).2 := by
  have ne : ps.drop at_ ≠ [] := fun z => by
    have := List.drop_eq_nil_iff.mp z
    omega
  obtain ⟨k, hk, e⟩ := best_step (w := w) (l := ps.drop at_) (fun q hq => hl q (List.mem_of_mem_drop hq)) ne
  rw [List.length_drop] at hk
  have e2 : (bestBreaking w (ps.drop at_)).2 = (k + 1) :: (bestBreaking w (ps.drop (at_ + (k + 1)))).2 := by
    rw [e]
    show _ :: (bestBreaking w ((ps.drop at_).drop (k + 1))).2 = _
    rw [List.drop_drop]
  have e3 : (bestBreaking w (ps.drop at_)).2.headD 0 = k + 1 := by
    rw [e2]
    rfl
  rw [e3]
  exact ⟨Nat.succ_le_succ (Nat.zero_le _), by omega, e2⟩
theorem lens_at (w : Nat) {ps : List Piece} (hl : ∀ q ∈ ps, q.content ≠ []) (st : Nat) {k x : Nat} (h : (allowed w (ps.drop st))[k]? = some x) : st + k < ps.length ∧ x = lens (ps.drop st) k ∧ x ≤ letters ps + ps.length := by
  have hk := (List.getElem?_eq_some_iff.mp h).1
  obtain ⟨h1, h2, _⟩ := allowed_run w (ps.drop st) [] (fun q hq => hl q (List.mem_of_mem_drop hq)) k hk
  have h2 : (allowed w (ps.drop st))[k]? = some (lens (ps.drop st) k) := h2
  rw [h] at h2
  have e : x = lens (ps.drop st) k := Option.some.inj h2
  rw [List.length_drop] at h1
  refine ⟨by omega, e, ?_⟩
  have g1 := line_len ((ps.drop st).take (k + 1))
  have g2 := letters_take_drop ps st (k + 1)
  have g3 : ((ps.drop st).take (k + 1)).length ≤ ps.length := by
    rw [List.length_take, List.length_drop]
    omega
  rw [e]
  show (lineText _).length ≤ _
  omega
end Pm

namespace Pm
open Kh455 (Piece Joint lineText takeLines lineCost Breaking better bestFrom bestAll bestBreaking breakLines)
theorem takes_len : ∀ (c : List Nat) (l : List Piece), (takeLines c l).length = c.length
  | [], _ => rfl
  | n :: r, l => by
    show (takeLines r (l.drop n)).length + 1 = _
    rw [takes_len r]
    rfl
/-- all lines together are no longer than the pieces and one sign more for each -/
theorem takes_sizes : ∀ (c : List Nat) (l : List Piece), sizes ((takeLines c l).map lineText) ≤ letters l + l.length
  | [], _ => Nat.zero_le _
  | n :: r, l => by
    have ih := takes_sizes r (l.drop n)
    have h := line_len (l.take n)
    have e : letters l = letters (l.take n) + letters (l.drop n) := by rw [← letters_cat, List.take_append_drop]
    have z : sizes ((takeLines (n :: r) l).map lineText) = (lineText (l.take n)).length + sizes ((takeLines r (l.drop n)).map lineText) := rfl
    rw [z, e]
    rw [List.length_drop] at ih
    rw [List.length_take] at h
    omega
/-- operations over a width, patterns and a text: what is due -/
def overPieces (w : Nat) (a b : List Nat) (f : List Piece → List Int) : List Int :=
  if 10 ≤ w ∧ w ≤ 80 then (match Kh450.decodeAll a with
    | none => [-24]
    | some t => match pats (Kh455.wordsOf t) with
      | none => [-21]
      | some ps => match Kh450.decodeAll b with
        | none => [-24]
        | some x => f (Kh455.pieces ps x))
  else [-22]
theorem overPieces_eq (w : Nat) (a b : List Nat) (c : List Piece → Kh455.Result) : Kh455Neutral.integers (Kh455.withPieces w a b c) = overPieces w a b fun l => Kh455Neutral.integers (c l) := by
  unfold Kh455.withPieces overPieces Kh455.isWidth
  by_cases h : 10 ≤ w ∧ w ≤ 80
  · rw [if_pos h]
    have e : (!(decide (10 ≤ w) && decide (w ≤ 80))) = false := by simp [h.1, h.2]
    rw [e]
    show Kh455Neutral.integers (Kh455.withPatterns a _) = _
    unfold Kh455.withPatterns Kh450.withText
    cases Kh450.decodeAll a with
    | none => rfl
    | some t =>
      show Kh455Neutral.integers (match Kh455.readPatterns t with | none => _ | some p => _) = _
      rw [readPatterns_eq]
      dsimp only
      cases pats (Kh455.wordsOf t) with
      | none => rfl
      | some ps =>
        show Kh455Neutral.integers (match Kh450.decodeAll b with | none => _ | some p => _) = _
        dsimp only
        cases Kh450.decodeAll b with
        | none => rfl
        | some x => rfl
  · rw [if_neg h]
    have e : (!(decide (10 ≤ w) && decide (w ≤ 80))) = true := by
      simp only [Bool.not_eq_true', Bool.and_eq_false_iff, decide_eq_false_iff_not]
      omega
    rw [e]
    rfl
/-- a text as the answer -/
def told (t : List Nat) : List Int := asInts ((Kh450.encodeAll t).length :: Kh450.encodeAll t)
/-- what break_text answers -/
theorem break_eq (w : Int) (a b : List Int) : PyKh455.break_text w a b = overPieces w.toNat (nats a) (nats b) fun l => told (Kh450.joinTexts [10] ((takeLines (bestBreaking w.toNat l).2 l).map lineText)) := by
  show Kh455Neutral.integers (Kh455.withPieces w.toNat (nats a) (nats b) _) = _
  rw [overPieces_eq]
  rfl
end Pm

namespace Pm
open Kh455 (Piece Joint lineText takeLines lineCost Breaking better bestFrom bestAll bestBreaking breakLines greedyCount greedyLoop greedy)
/-! ### the greedy division -/
theorem last_true {p : Nat → Bool} {a m : Nat} (ha : a ≤ m) (hp : p a = true) (hn : ∀ n, a < n → n ≤ m → p n = false) : ((List.range (m + 1)).filter p).getLast? = some a := by
  induction m with
  | zero =>
    have e : a = 0 := by omega
    subst e
    simp [List.range_succ, hp]
  | succ m ih =>
    rw [List.range_succ, List.filter_append]
    by_cases h : a = m + 1
    · subst h
      simp [hp]
    · have e := hn (m + 1) (by omega) (Nat.le_refl _)
      have e2 : [m + 1].filter p = [] := by simp [e]
      rw [e2, List.append_nil]
      exact ih (by omega) fun n h1 h2 => hn n h1 (by omega)
theorem greedyCount_eq {w : Nat} {p : Piece} {r : List Piece} (hl : ∀ q ∈ p :: r, q.content ≠ []) : greedyCount w (p :: r) = (allowed w (p :: r)).length := by
  have apos := allowed_pos (w := w) (p := p) (r := r)
  have alen : (allowed w (p :: r)).length ≤ (p :: r).length := allowed_len w (p :: r) 0 true
  have run := fun k hk => allowed_run w (p :: r) [] hl k hk
  have ends := fun k h1 h2 => allowed_ends w (p :: r) [] hl k h1 h2
  have run : ∀ k, k < (allowed w (p :: r)).length → k = 0 ∨ lens (p :: r) k ≤ w := fun k hk => by
    have z := (run k hk).2.2
    simp only [List.length_nil, Nat.zero_add, List.nil_append] at z
    exact z
  have ends : ∀ k, (allowed w (p :: r)).length ≤ k → k < (p :: r).length → w < lens (p :: r) k := fun k h1 h2 => (ends k h1 h2).1
  generalize (p :: r) = l at *
  unfold greedyCount
  have tooLong : ∀ n, (allowed w l).length < n → n ≤ l.length → decide ((lineText (l.take n)).length ≤ w) = false := fun n h1 h2 => by
    obtain ⟨k, rfl⟩ : ∃ k, n = k + 1 := ⟨n - 1, by omega⟩
    have := ends k (by omega) (by omega)
    exact decide_eq_false (by unfold lens at this; omega)
  by_cases h : lens l ((allowed w l).length - 1) ≤ w
  · have e : (allowed w l).length - 1 + 1 = (allowed w l).length := by omega
    have hp : decide ((lineText (l.take (allowed w l).length)).length ≤ w) = true := by
      unfold lens at h
      rw [e] at h
      exact decide_eq_true h
    rw [last_true (p := fun n => decide ((lineText (l.take n)).length ≤ w)) alen hp tooLong]
    show max 1 (allowed w l).length = _
    omega
  · have one : (allowed w l).length = 1 := by
      rcases run ((allowed w l).length - 1) (by omega) with z | z
      · omega
      · exact absurd z h
    rw [one] at h tooLong ⊢
    have hp : decide ((lineText (l.take 0)).length ≤ w) = true := decide_eq_true (Nat.zero_le _)
    rw [last_true (p := fun n => decide ((lineText (l.take n)).length ≤ w)) (a := 0) (Nat.zero_le _) hp fun n h1 h2 => ?_]
    · rfl
    · by_cases e : n = 1
      · rw [e]
        exact decide_eq_false (fun z => h z)
      · exact tooLong n (by omega) h2
theorem greedyLoop_step {w f : Nat} {l : List Piece} (hl : ∀ q ∈ l, q.content ≠ []) (ne : l ≠ []) (hf : l.length ≤ f) :
    1 ≤ (allowed w l).length ∧ (allowed w l).length ≤ l.length ∧ ∃ g, l.length - (allowed w l).length ≤ g ∧ greedyLoop w f l = (allowed w l).length :: greedyLoop w g (l.drop (allowed w l).length) := by
  cases l with
  | nil => exact absurd rfl ne
  | cons p r =>
    have apos := allowed_pos (w := w) (p := p) (r := r)
    have alen : (allowed w (p :: r)).length ≤ (p :: r).length := allowed_len w (p :: r) 0 true
    cases f with
    | zero => simp at hf
    | succ f =>
      refine ⟨apos, alen, f, ?_, ?_⟩
      · simp only [List.length_cons] at hf ⊢
        omega
      · show (if (p :: r).isEmpty then [] else greedyCount w (p :: r) :: greedyLoop w f ((p :: r).drop (greedyCount w (p :: r)))) = _
        rw [greedyCount_eq hl]
        rfl
theorem greedyLoop_nil (w f : Nat) : greedyLoop w f [] = [] := by
  cases f <;> rfl
theorem greedyLoop_fits (w : Nat) : ∀ (n f : Nat) (l : List Piece), l.length ≤ n → l.length ≤ f → (∀ q ∈ l, q.content ≠ []) → Fits (greedyLoop w f l) l.length
  | _, f, [], _, _, _ => by
    rw [greedyLoop_nil]
    trivial
  | 0, f, p :: r, h, _, _ => absurd h (by simp)
  | n + 1, f, p :: r, h, hf, hl => by
    obtain ⟨h1, h2, g, hg, e⟩ := greedyLoop_step (w := w) hl (fun z => nomatch z) hf
    rw [e]
    refine ⟨h1, h2, ?_⟩
    have hd : ((p :: r).drop (allowed w (p :: r)).length).length = (p :: r).length - (allowed w (p :: r)).length := List.length_drop
    rw [← hd]
    refine greedyLoop_fits w n g _ ?_ ?_ fun q hq => hl q (List.mem_of_mem_drop hq)
    · rw [hd]
      simp only [List.length_cons] at h h2 ⊢
      omega
    · rw [hd]
      exact hg
theorem greedy_fits (w : Nat) {l : List Piece} (hl : ∀ q ∈ l, q.content ≠ []) : Fits (greedy w l) l.length := greedyLoop_fits w _ _ l (Nat.le_refl _) (Nat.le_refl _) hl
/-- what greedy_text answers -/
theorem greedy_eq (w : Int) (a b : List Int) : PyKh455.greedy_text w a b = overPieces w.toNat (nats a) (nats b) fun l => told (Kh450.joinTexts [10] ((takeLines (greedy w.toNat l) l).map lineText)) := by
  show Kh455Neutral.integers (Kh455.withPieces w.toNat (nats a) (nats b) _) = _
  rw [overPieces_eq]
  rfl
/-! ### the cost of a division -/
theorem costOf_cons (w n : Nat) (r : List Nat) (l : List Piece) : Kh455.costOf w (n :: r) l = if n = 0 ∨ l.length < n then none else (match lineCost w (l.take n) (n == l.length), Kh455.costOf w r (l.drop n) with
      | some a, some b => some (a + b)
      | _, _ => none) := rfl
/-- a line of n pieces -/
theorem lineCost_any {w n : Nat} {l : List Piece} (h1 : 1 ≤ n) (h2 : n ≤ l.length) : lineCost w (l.take n) (n == l.length) = if w < (lineText (l.take n)).length ∧ 1 < n then none else some (lCost w (lineText (l.take n)).length (jointAt l (n - 1)) (decide (n = l.length))) := by
  obtain ⟨k, rfl⟩ : ∃ k, n = k + 1 := ⟨n - 1, by omega⟩
  have hk : k < l.length := by omega
  have hlast : (l.take (k + 1)).getLast?.map Piece.joint = some (jointAt l k) := by
    have e : l.take (k + 1) = l.take k ++ [l[k]] := by
      rw [List.take_add_one, List.getElem?_eq_getElem hk]
      rfl
    rw [e, List.getLast?_append]
    unfold jointAt
    rw [List.getElem?_eq_getElem hk]
    simp
  have hlen : (l.take (k + 1)).length = k + 1 := by
    rw [List.length_take]
    omega
  unfold lineCost
  rw [hlast, hlen]
  dsimp only
  have hb : (k + 1 == l.length) = decide (k + 1 = l.length) := by
    rw [Bool.eq_iff_iff, beq_iff_eq, decide_eq_true_eq]
  have hh : (if some (jointAt l k) = some Joint.hyphen then 50 else 0) = hyC (jointAt l k) := by
    unfold hyC
    by_cases h : jointAt l k = .hyphen
    · rw [if_pos h, if_pos (congrArg some h)]
    · rw [if_neg h, if_neg fun z => h (Option.some.inj z)]
  rw [hb, hh, Nat.add_sub_cancel]
  generalize (lineText (l.take (k + 1))).length = len
  unfold lCost
  by_cases hw : len ≤ w
  · rw [if_pos hw, if_neg (show ¬ (w < len ∧ 1 < k + 1) from fun z => absurd z.1 (Nat.not_lt.mpr hw)), if_neg (Nat.not_lt.mpr hw)]
  · rw [if_neg hw]
    by_cases h0 : k = 0
    · subst h0
      rw [if_pos rfl, if_neg (show ¬ (w < len ∧ 1 < 0 + 1) from fun z => absurd z.2 (Nat.lt_irrefl _)), if_pos (Nat.lt_of_not_le hw)]
    · rw [if_neg (show ¬ (k + 1 = 1) by omega), if_pos (show w < len ∧ 1 < k + 1 from ⟨by omega, by omega⟩)]
/-- the best division's cost is that of its lines -/
theorem best_step2 {w : Nat} {l : List Piece} (hl : ∀ q ∈ l, q.content ≠ []) (ne : l ≠ []) : ∃ k, k < (allowed w l).length ∧ k < l.length ∧ bestBreaking w l = cand w l k := by
  cases l with
  | nil => exact absurd rfl ne
  | cons p r =>
    obtain ⟨k, hk, e⟩ := pyBest_is w (p :: r) _ (allowed_pos (w := w) (p := p) (r := r))
    refine ⟨k, hk, Nat.lt_of_lt_of_le hk (allowed_len w (p :: r) 0 true), ?_⟩
    rw [best_cons hl, e]
    rfl
theorem costOf_best (w : Nat) : ∀ (n : Nat) (l : List Piece), l.length ≤ n → (∀ q ∈ l, q.content ≠ []) → Kh455.costOf w (bestBreaking w l).2 l = some (bestBreaking w l).1
  | _, [], _, _ => rfl
  | 0, p :: r, h, _ => absurd h (by simp)
  | n + 1, p :: r, h, hl => by
    obtain ⟨k, ha, hk, e⟩ := best_step2 (w := w) hl (fun z => nomatch z)
    have lc := lineCost_eq (w := w) hl hk
    rw [if_pos ha] at lc
    have ih := costOf_best w n ((p :: r).drop (k + 1)) (by rw [List.length_drop]; simp only [List.length_cons] at h ⊢; omega) fun q hq => hl q (List.mem_of_mem_drop hq)
    rw [e]
    unfold cand
    rw [costOf_cons, if_neg (by omega), lc, ih]
/-- what the loop of division_cost has done: the total so far, where it stands, which counts are left -/
def goesOn (w : Nat) (ps : List Piece) (counts : List Nat) (start total : Nat) : Option Nat := (Kh455.costOf w counts (ps.drop start)).map (total + ·)
theorem goes_start (w : Nat) (ps : List Piece) (counts : List Nat) : goesOn w ps counts 0 0 = Kh455.costOf w counts ps := by
  unfold goesOn
  rw [List.drop_zero]
  cases Kh455.costOf w counts ps with
  | none => rfl
  | some x => simp
theorem goes_bad (w : Nat) (ps : List Piece) (n : Nat) (r : List Nat) (start total : Nat) (hs : start ≤ ps.length) (h : n = 0 ∨ ps.length < start + n) : goesOn w ps (n :: r) start total = none := by
  unfold goesOn
  rw [costOf_cons, List.length_drop, if_pos (by omega)]
  rfl
theorem goes_long (w : Nat) (ps : List Piece) (n : Nat) (r : List Nat) (start total : Nat) (h1 : 1 ≤ n) (h2 : start + n ≤ ps.length) (h : w < (lineText ((ps.drop start).take n)).length ∧ 1 < n) : goesOn w ps (n :: r) start total = none := by
  unfold goesOn
  rw [costOf_cons, List.length_drop, if_neg (by omega)]
  have e := lineCost_any (w := w) (l := ps.drop start) h1 (by rw [List.length_drop]; omega)
  rw [if_pos h, List.length_drop] at e
  rw [e]
  rfl
theorem goes_more (w : Nat) (ps : List Piece) (n : Nat) (r : List Nat) (start total : Nat) (h1 : 1 ≤ n) (h2 : start + n ≤ ps.length) (h : ¬ (w < (lineText ((ps.drop start).take n)).length ∧ 1 < n)) :
    goesOn w ps (n :: r) start total = goesOn w ps r (start + n) (total + lCost w (lineText ((ps.drop start).take n)).length (jointAt ps (start + n - 1)) (decide (start + n = ps.length))) := by
  unfold goesOn
  rw [costOf_cons, List.length_drop, if_neg (by omega)]
  have e := lineCost_any (w := w) (l := ps.drop start) h1 (by rw [List.length_drop]; omega)
  rw [if_neg h, List.length_drop] at e
  rw [e, List.drop_drop]
  have j : jointAt (ps.drop start) (n - 1) = jointAt ps (start + n - 1) := by
    unfold jointAt
    rw [List.getElem?_drop, show start + (n - 1) = start + n - 1 by omega]
  have d : decide (n = ps.length - start) = decide (start + n = ps.length) := by
    rw [decide_eq_decide]
    omega
  rw [j, d]
  generalize lCost _ _ _ _ = c
  cases Kh455.costOf w r (ps.drop (start + n)) with
  | none => rfl
  | some x => simp [Nat.add_assoc]
theorem goes_end (w : Nat) (ps : List Piece) (start total : Nat) (hs : start ≤ ps.length) : goesOn w ps [] start total = if start < ps.length then none else some total := by
  unfold goesOn
  show (if (ps.drop start).isEmpty then some 0 else none : Option Nat).map (total + ·) = _
  by_cases h : start < ps.length
  · have ne : (ps.drop start).isEmpty = false := by
      rw [List.isEmpty_eq_false_iff]
      intro z
      have := List.drop_eq_nil_iff.mp z
      omega
    rw [if_pos h, ne]
    rfl
  · have e : (ps.drop start).isEmpty = true := by
      rw [List.isEmpty_iff]
      exact List.drop_eq_nil_iff.mpr (by omega)
    rw [if_neg h, e]
    rfl
theorem goes_fails {w : Nat} {ps : List Piece} {counts : List Nat} {start total : Nat} : goesOn w ps counts start total = none ↔ Kh455.costOf w counts (ps.drop start) = none := by
  unfold goesOn
  cases Kh455.costOf w counts (ps.drop start) <;> simp
/-- what cost and cost_of answer -/
theorem cost_eq (w : Int) (a b : List Int) : PyKh455.cost w a b = overPieces w.toNat (nats a) (nats b) fun l => [((bestBreaking w.toNat l).1 : Int), ((bestBreaking w.toNat l).2.length : Int)] := by
  show Kh455Neutral.integers (Kh455.withPieces w.toNat (nats a) (nats b) _) = _
  rw [overPieces_eq]
  rfl
theorem costOf_eq (w : Int) (a b c : List Int) : PyKh455.cost_of w a b c = overPieces w.toNat (nats a) (nats b) fun l => match Kh455.costOf w.toNat (nats c) l with
    | none => [-33]
    | some x => [(x : Int)] := by
  show Kh455Neutral.integers (Kh455.withPieces w.toNat (nats a) (nats b) _) = _
  rw [overPieces_eq]
  congr 1
  funext l
  show Kh455Neutral.integers (match Kh455.costOf w.toNat (nats c) l with | none => _ | some c => _) = _
  cases Kh455.costOf w.toNat (nats c) l <;> rfl
end Pm

namespace Pl
open PySem PySem.Spec PyProof.Rows L2
/-! ### the text -/
def topS (i : Nat) : Stmt := PySem.Challenge.pw_plainlayout_s04_greedy_text.main.body.getD i (.Pass ⟨0, 0, 0, 0⟩)
abbrev sIsChar : Stmt := topS 16
abbrev sWhite : Stmt := topS 17
abbrev sDigit : Stmt := topS 18
abbrev sCap : Stmt := topS 19
abbrev sSmall : Stmt := topS 20
abbrev sLetter : Stmt := topS 21
abbrev sLower : Stmt := topS 22
abbrev sWords : Stmt := topS 23
abbrev sRefI : Stmt := inClass (topS 25) 0
abbrev sNpI : Stmt := inClass (topS 26) 0
abbrev sOorI : Stmt := inClass (topS 27) 0
abbrev sNuI : Stmt := inClass (topS 28) 0
abbrev sPatI : Stmt := inClass (topS 31) 0
abbrev sPats : Stmt := topS 32
abbrev sPat : Stmt := topS 33
abbrev sPos : Stmt := topS 34
abbrev sLev : Stmt := topS 35
abbrev sPieceI : Stmt := inClass (topS 40) 0
abbrev sPieces : Stmt := topS 41
abbrev sPcWord : Stmt := topS 42
abbrev sParts : Stmt := topS 43
abbrev sPcPart : Stmt := topS 44
abbrev sLine : Stmt := topS 45
abbrev sAllowed : Stmt := topS 46
abbrev sGreedy : Stmt := topS 47
abbrev sLinesOf : Stmt := topS 48
abbrev sRead : Stmt := topS 52
abbrev sSize : Stmt := topS 53
abbrev sSeq : Stmt := topS 54
abbrev sWrite : Stmt := topS 55
abbrev sWriteSeq : Stmt := topS 56
abbrev sGreedyText : Stmt := topS 60
abbrev sChecked : Stmt := topS 61
abbrev sCheck : Stmt := topS 62
abbrev sAnswer : Stmt := topS 63
abbrev nmExcess : Str := "EXCESS_COST"
abbrev nmAllCosts : Str := "allowed_costs"
end Pl

namespace Pl
open PySem PySem.Spec PyProof.Rows L2
/-! ### words -/
theorem if_true_of {c : Bool} {A B : Prop} (hc : c = true) (h : A) : if c = true then A else B := by
  rw [if_pos hc]
  exact h
theorem if_false_of {c : Bool} {A B : Prop} (hc : c = false) (h : B) : if c = true then A else B := by
  rw [hc, if_neg Bool.false_ne_true]
  exact h
/-- a list of natural numbers, as values -/
def vn (l : List Nat) : List V := l.map fun n : Nat => V.int n
theorem vn_len (l : List Nat) : (vn l).length = l.length := List.length_map _
theorem vn_get {l : List Nat} {i : Nat} {n : Nat} (h : l[i]? = some n) : (vn l)[i]? = some (.int n) := by
  unfold vn
  rw [List.getElem?_map, h]
  rfl
theorem vn_of {l : List Nat} {i : Nat} {x : V} (h : (vn l)[i]? = some x) : ∃ n, l[i]? = some n ∧ x = .int n := by
  unfold vn at h
  rw [List.getElem?_map] at h
  cases e : l[i]? with
  | none =>
    rw [e] at h
    cases h
  | some n =>
    rw [e] at h
    exact ⟨n, rfl, (Option.some.inj h).symm⟩
theorem vn_snoc (l : List Nat) (n : Nat) : vn l ++ [.int n] = vn (l ++ [n]) := by
  unfold vn
  rw [List.map_append]
  rfl
theorem take_more {α : Type} : ∀ {l : List α} {i : Nat} {x : α}, l[i]? = some x → l.take (i + 1) = l.take i ++ [x]
  | [], i, x, h => by simp at h
  | a :: l, 0, x, h => by
    have e : a = x := Option.some.inj h
    subst e
    rfl
  | a :: l, i + 1, x, h => by
    have ih := take_more (l := l) (i := i) (x := x) h
    show a :: l.take (i + 1) = a :: l.take i ++ [x]
    rw [ih]
    rfl
theorem _root_.L2.Same.new {H H' : Hp} {p : Addr} {o : HO} (s : Same H H') (n : H' p = none) : Same H (upd H' p o) := fun b u e => by
  rw [upd_ne (ne_of_none (s b u e) n)]
  exact s b u e
/-- what was laid since may change -/
theorem _root_.L2.Same.own {H H' : Hp} {p : Addr} {o : HO} (s : Same H H') (n : H p = none) : Same H (upd H' p o) := fun b u e => by
  rw [upd_ne (ne_of_none e n)]
  exact s b u e
/-- a def of the program by its name, with its promise -/
def Def (P : Program) (w : World) (K : PySem.W.Frag) (mg : Str → Option Value) (base : Heap) (CX : CXT) (k : Nat) (x : Str) (ps : List Str) (sp : Sp) : Prop :=
  ∃ f fd, mg x = some (.ref f) ∧ PySem.W.keepIn K (.ref f) = true ∧ Binds K fd ps [] ∧ FnOk P w K mg base CX k f fd ps sp
abbrev IntG (mg : Str → Option Value) (x : Str) (n : Int) : Prop := ∃ t, mg x = some (.int n t)
section
variable {X : Cx} {e : Expr} {es : List Expr} {t : TA} {p pos : Pos} {CX : CXT} {k : Nat} {x : Str} {ps : List Str} {sp : Sp} {n : Int}
theorem pe_gi (h : IntG X.mg x n) (hg : Gl X x := by rfl) (hd : (x == ("__debug__" : Str)) = false := by decide) : PE X (.Name x p) (tC (.int n)) := by
  obtain ⟨t, h⟩ := h
  exact pe_glob hg h ⟨t, rfl⟩ hd
theorem pass0S (σ : L2.St) : PassesAt CX0 X σ E0 := fun _ _ _ _ _ _ h => h.elim
/-- a call of a def that raises nothing -/
theorem pe_d (D : Def X.prog X.w X.K X.mg X.base CX0 k x ps sp) (hr : Room k X.A) (ha : PA X (e :: es) t) (hg : Gl X x := by rfl) (hdb : (x == ("__debug__" : Str)) = false := by decide)
    (he : starEach (e :: es) X.env = (false, eval e X.env) :: starEach es X.env := by rfl) (hpl : (backTo pos (starEach es X.env)).any (·.1) = false := by rfl) : PE X (.Call (.Name x p) (e :: es) [] pos) (tCallS sp (fun _ => E0) t) := by
  obtain ⟨f, fd, hm, hk, hb, F⟩ := D
  exact pe_callS F hr hg hm hk hb pass0S ha hdb he hpl
/-- of one that may raise -/
theorem pe_dX {W : WX} (D : Def X.prog X.w X.K X.mg X.base (L2.CX X.prog X.w) k x ps sp) (hr : Room k X.A) (tk : Takes X W) (ha : PA X (e :: es) t) (hg : Gl X x := by rfl) (hdb : (x == ("__debug__" : Str)) = false := by decide)
    (he : starEach (e :: es) X.env = (false, eval e X.env) :: starEach es X.env := by rfl) (hpl : (backTo pos (starEach es X.env)).any (·.1) = false := by rfl) : PE X (.Call (.Name x p) (e :: es) [] pos) (tCallS sp (WE W) t) := by
  obtain ⟨f, fd, hm, hk, hb, F⟩ := D
  exact pe_callS F hr hg hm hk hb (fun σ => passAt tk σ) ha hdb he hpl
end
theorem Def.mk {P : Program} {w : World} {K : PySem.W.Frag} {mg : Str → Option Value} {base : Heap} {CX : CXT} {j k : Nat} {x qual : Str} {st : Stmt} {f : Addr} {fd : FuncData} {ps : List Str} {sp : Sp} (hm : mg x = some (.ref f)) (F : Fun K x qual st f fd)
    (hb : Binds K fd ps []) (G : FnOk P w K mg base CX j f fd ps sp) (h : j ≤ k) : Def P w K mg base CX k x ps sp := ⟨f, fd, hm, F.kp, hb, G.mono h⟩

/-! ### characters -/
structure TWh (mg : Str → Option Value) : Prop where
  TAB : IntG mg "TAB" 9
  LF : IntG mg "LINE_FEED" 10
  CR : IntG mg "CARRIAGE_RETURN" 13
  BLANK : IntG mg "BLANK" 32
structure TChr (mg : Str → Option Value) : Prop extends TWh mg where
  D0 : IntG mg "DIGIT_0" 48
  D9 : IntG mg "DIGIT_9" 57
  CA : IntG mg "CAPITAL_A" 65
  CZ : IntG mg "CAPITAL_Z" 90
  SA : IntG mg "SMALL_A" 97
  SZ : IntG mg "SMALL_Z" 122
/-- a test of a character -/
def spFlag (f : Nat → Bool) : Sp := fun vs H Q _ => ∃ c : Nat, vs = [.int c] ∧ ∀ H', Same H H' → Q (.bl (f c)) H'
def spLower : Sp := fun vs H Q _ => ∃ c : Nat, vs = [.int c] ∧ Q (.int (Kh450.lowerCase c)) H
section
variable {P : Program} {w : World} {K : PySem.W.Frag} {mg : Str → Option Value} {base : Heap} {f : Addr} {fd : FuncData}
theorem scWhite : FnScope ["code"] ["code"] (defScope sWhite) := ⟨rfl, rfl, rfl, by decide +kernel, rfl, by decide +kernel, by decide +kernel⟩
theorem white_in (c : Nat) : inV (.int c) [.int 32, .int 9, .int 10, .int 13] = Kh450.isWhite c := by
  show ((32 : Int) == (c : Int) || ((9 : Int) == (c : Int) || ((10 : Int) == (c : Int) || ((13 : Int) == (c : Int) || false)))) = (c == 32 || c == 9 || c == 10 || c == 13)
  rw [Bool.eq_iff_iff]
  simp only [Bool.or_eq_true, beq_iff_eq, Bool.false_eq_true, or_false]
  omega
theorem ok_white (F : Fun K "is_white_space" "is_white_space" sWhite f fd) (T : TWh mg) : FnOk P w K mg base CX0 1 f fd ["code"] (spFlag Kh450.isWhite) := by
  refine F.ok scWhite (fun vs H Q E h => ?_) (fun cdv A outer s H vs Q E hr h => ?_)
  · obtain ⟨c, rfl, _⟩ := h
    rfl
  · refine ⟨_, pss_one (ps_ret (pe_cmpR op_in_seq (pv 0) (pe_tup (pa_cons (pe_gi T.BLANK) (pa_cons (pe_gi T.TAB) (pa_cons (pe_gi T.LF) (pa_cons (pe_gi T.CR) pa_nil))))) (by rfl))), ?_⟩
    obtain ⟨c, rfl, k⟩ := h
    refine ⟨_, rfl, (by show 4 ≤ sizeLine; decide), fun p np => ?_⟩
    refine ⟨p, _, rfl, .inr (.inl (Rd.of upd_same)), rfl, rfl, ?_⟩
    show Q (.bl (inV (.int c) [.int 32, .int 9, .int 10, .int 13])) _
    rw [white_in]
    exact k _ ((Same.refl H).new np)
/-- lo <= code <= hi -/
theorem range_test {A B : Str} {lo hi : Int} {g : Nat → Bool} {x : Str} {st : Stmt} (hg : ∀ c : Nat, g c = (decide (lo ≤ c) && decide ((c : Int) ≤ hi))) (H : Hp) (Q : VK) (c : Nat) (k : ∀ H', Same H H' → Q (.bl (g c)) H') :
    tChain (rI0 fun i j => .bl (decide (i ≤ j))) (rI0 fun i j => .bl (decide (i ≤ j))) (tC (.int lo)) (tVar 0) (tC (.int hi)) [some (.int c)] H Q := by
  refine ⟨_, rfl, _, _, rfl, rfl, _, rfl, ?_⟩
  have e := hg c
  by_cases h : lo ≤ (c : Int)
  · refine if_true_of (decide_eq_true h) ⟨_, _, rfl, rfl, ?_⟩
    rw [decide_eq_true h, Bool.true_and] at e
    show Q (.bl (decide ((c : Int) ≤ hi))) H
    rw [← e]
    exact k H (Same.refl H)
  · refine if_false_of (decide_eq_false h) ?_
    rw [decide_eq_false h, Bool.false_and] at e
    rw [← e]
    exact k H (Same.refl H)
theorem scIsChar : FnScope ["code"] ["code"] (defScope sIsChar) := ⟨rfl, rfl, rfl, by decide +kernel, rfl, by decide +kernel, by decide +kernel⟩
theorem ok_isChar (F : Fun K "is_character" "is_character" sIsChar f fd) (hG : IntG mg "GREATEST_CHARACTER" 1114111) (hF : IntG mg "FIRST_SURROGATE" 55296) (hL : IntG mg "LAST_SURROGATE" 57343) : FnOk P w K mg base CX0 1 f fd ["code"] (spFlag Kh450.isScalar) := by
  refine F.ok scIsChar (fun vs H Q E h => ?_) (fun cdv A outer s H vs Q E hr h => ?_)
  · obtain ⟨c, rfl, _⟩ := h
    rfl
  · refine ⟨_, pss_one (ps_ret (pe_and (pe_cmpR op_le (pv 0) (pe_gi hG) (nomark _)) (pe_one (pe_not (pe_chain op_le op_le (pe_gi hF) (pv 0) (pe_gi hL)))))), ?_⟩
    obtain ⟨c, rfl, k⟩ := h
    refine ⟨_, rfl, _, _, rfl, rfl, _, rfl, ?_⟩
    by_cases h1 : c ≤ 1114111
    · refine if_true_of (decide_eq_true (by omega)) ⟨_, rfl, _, _, rfl, rfl, _, rfl, ?_⟩
      by_cases h2 : 55296 ≤ c
      · refine if_true_of (decide_eq_true (by omega)) ⟨_, _, rfl, rfl, _, rfl, ?_⟩
        have e : (!decide ((c : Int) ≤ 57343)) = Kh450.isScalar c := by
          unfold Kh450.isScalar
          by_cases h3 : c ≤ 57343
          · rw [decide_eq_true (by omega), decide_eq_true (by omega), decide_eq_true (by omega), decide_eq_true (by omega)]
            rfl
          · rw [decide_eq_false (by omega), decide_eq_true (by omega), decide_eq_true (by omega), decide_eq_false (by omega)]
            rfl
        dsimp only
        rw [e]
        exact k _ (Same.refl H)
      · refine if_false_of (decide_eq_false (by omega)) ⟨_, rfl, ?_⟩
        have e : true = Kh450.isScalar c := by
          unfold Kh450.isScalar
          rw [decide_eq_true (by omega), decide_eq_false (by omega)]
          rfl
        show Q (.bl true) H
        rw [e]
        exact k _ (Same.refl H)
    · refine if_false_of (decide_eq_false (by omega)) ?_
      have e : false = Kh450.isScalar c := by
        unfold Kh450.isScalar
        rw [decide_eq_false (by omega)]
        rfl
      show Q (.bl false) H
      rw [e]
      exact k _ (Same.refl H)
theorem scDigit : FnScope ["code"] ["code"] (defScope sDigit) := ⟨rfl, rfl, rfl, by decide +kernel, rfl, by decide +kernel, by decide +kernel⟩
theorem ok_digit (F : Fun K "is_digit" "is_digit" sDigit f fd) (T : TChr mg) : FnOk P w K mg base CX0 1 f fd ["code"] (spFlag Kh450.isDigit) := by
  refine F.ok scDigit (fun vs H Q E h => ?_) (fun cdv A outer s H vs Q E hr h => ?_)
  · obtain ⟨c, rfl, _⟩ := h
    rfl
  · refine ⟨_, pss_one (ps_ret (pe_chain op_le op_le (pe_gi T.D0) (pv 0) (pe_gi T.D9))), ?_⟩
    obtain ⟨c, rfl, k⟩ := h
    exact range_test (A := "") (B := "") (x := "") (st := sDigit) (fun c => by unfold Kh450.isDigit; congr 1 <;> simp <;> omega) H Q c k
theorem scCap : FnScope ["code"] ["code"] (defScope sCap) := ⟨rfl, rfl, rfl, by decide +kernel, rfl, by decide +kernel, by decide +kernel⟩
theorem ok_cap (F : Fun K "is_capital_letter" "is_capital_letter" sCap f fd) (T : TChr mg) : FnOk P w K mg base CX0 1 f fd ["code"] (spFlag Kh450.isUpper) := by
  refine F.ok scCap (fun vs H Q E h => ?_) (fun cdv A outer s H vs Q E hr h => ?_)
  · obtain ⟨c, rfl, _⟩ := h
    rfl
  · refine ⟨_, pss_one (ps_ret (pe_chain op_le op_le (pe_gi T.CA) (pv 0) (pe_gi T.CZ))), ?_⟩
    obtain ⟨c, rfl, k⟩ := h
    exact range_test (A := "") (B := "") (x := "") (st := sDigit) (fun c => by unfold Kh450.isUpper; congr 1 <;> simp <;> omega) H Q c k
theorem scSmall : FnScope ["code"] ["code"] (defScope sSmall) := ⟨rfl, rfl, rfl, by decide +kernel, rfl, by decide +kernel, by decide +kernel⟩
theorem ok_small (F : Fun K "is_small_letter" "is_small_letter" sSmall f fd) (T : TChr mg) : FnOk P w K mg base CX0 1 f fd ["code"] (spFlag Kh450.isLower) := by
  refine F.ok scSmall (fun vs H Q E h => ?_) (fun cdv A outer s H vs Q E hr h => ?_)
  · obtain ⟨c, rfl, _⟩ := h
    rfl
  · refine ⟨_, pss_one (ps_ret (pe_chain op_le op_le (pe_gi T.SA) (pv 0) (pe_gi T.SZ))), ?_⟩
    obtain ⟨c, rfl, k⟩ := h
    exact range_test (A := "") (B := "") (x := "") (st := sDigit) (fun c => by unfold Kh450.isLower; congr 1 <;> simp <;> omega) H Q c k
theorem scLetter : FnScope ["code"] ["code"] (defScope sLetter) := ⟨rfl, rfl, rfl, by decide +kernel, rfl, by decide +kernel, by decide +kernel⟩
theorem ok_letter (F : Fun K "is_letter" "is_letter" sLetter f fd) (DS : Def P w K mg base CX0 1 "is_small_letter" ["code"] (spFlag Kh450.isLower)) (DC : Def P w K mg base CX0 1 "is_capital_letter" ["code"] (spFlag Kh450.isUpper)) :
    FnOk P w K mg base CX0 2 f fd ["code"] (spFlag Kh455.isLetter) := by
  refine F.ok scLetter (fun vs H Q E h => ?_) (fun cdv A outer s H vs Q E hr h => ?_)
  · obtain ⟨c, rfl, _⟩ := h
    rfl
  · refine ⟨_, pss_one (ps_ret (pe_or (pe_d DS hr (by exact (pa_cons (pv 0) pa_nil))) (pe_one (pe_d DC hr (by exact (pa_cons (pv 0) pa_nil)))))), ?_⟩
    obtain ⟨c, rfl, k⟩ := h
    refine ⟨_, rfl, c, rfl, fun H1 s1 => ⟨_, rfl, ?_⟩⟩
    cases e : Kh450.isLower c with
    | true =>
      have z : Kh455.isLetter c = true := by
        unfold Kh455.isLetter
        rw [e]
        rfl
      rw [z] at k
      exact iteT (k _ s1)
    | false =>
      have z : Kh455.isLetter c = Kh450.isUpper c := by
        unfold Kh455.isLetter
        rw [e]
        rfl
      refine iteF ⟨_, rfl, c, rfl, fun H2 s2 => ?_⟩
      rw [← z]
      exact k _ (s1.trans s2)
theorem scLower : FnScope ["letter"] ["letter"] (defScope sLower) := ⟨rfl, rfl, rfl, by decide +kernel, rfl, by decide +kernel, by decide +kernel⟩
def spLowerS : Sp := fun vs H Q _ => ∃ c : Nat, vs = [.int c] ∧ ∀ H', Same H H' → Q (.int (Kh450.lowerCase c)) H'
theorem ok_lower (F : Fun K "to_small_letter" "to_small_letter" sLower f fd) (T : TChr mg) (DC : Def P w K mg base CX0 1 "is_capital_letter" ["code"] (spFlag Kh450.isUpper)) : FnOk P w K mg base CX0 2 f fd ["letter"] spLowerS := by
  refine F.ok scLower (fun vs H Q E h => ?_) (fun cdv A outer s H vs Q E hr h => ?_)
  · obtain ⟨c, rfl, _⟩ := h
    rfl
  · refine ⟨_, pss_cons (ps_if (pt_val (pe_d DC hr (by exact (pa_cons (pv 0) pa_nil)))) (pss_one (ps_ret (pe_op op_add (pe_op op_sub (pv 0) (pe_gi T.CA)) (pe_gi T.SA)))) pss_nil) (pss_one (ps_ret (pv 0))), ?_⟩
    obtain ⟨c, rfl, k⟩ := h
    refine ⟨_, rfl, c, rfl, fun H1 s1 => ⟨_, rfl, ?_⟩⟩
    unfold Kh450.lowerCase at k
    cases e : Kh450.isUpper c with
    | true =>
      rw [e, if_pos rfl] at k
      refine iteT ⟨_, rfl, _, _, rfl, rfl, _, _, rfl, rfl, ?_⟩
      have z : (c : Int) - 65 + 97 = ((c + 32 : Nat) : Int) := by
        omega
      show Q (.int ((c : Int) - 65 + 97)) _
      rw [z]
      exact k _ s1
    | false =>
      rw [e, if_neg Bool.false_ne_true] at k
      exact iteF ⟨_, rfl, k _ s1⟩
end
end Pl

namespace Pm
theorem wRun_len : ∀ (t : List Nat) (s : List (List Nat) × List Nat), (t.foldl wStep s).1.length ≤ s.1.length + t.length ∧ (t.foldl wStep s).2.length ≤ s.2.length + t.length
  | [], s => ⟨Nat.le_refl _, Nat.le_refl _⟩
  | c :: r, s => by
    have ih := wRun_len r (wStep s c)
    have h : (wStep s c).1.length ≤ s.1.length + 1 ∧ (wStep s c).2.length ≤ s.2.length + 1 := by
      unfold wStep
      split
      · split
        · exact ⟨Nat.le_succ _, Nat.le_succ _⟩
        · simp
      · simp
    rw [List.foldl_cons, List.length_cons]
    omega
theorem wRun_more {t : List Nat} {i c : Nat} (h : t[i]? = some c) (s : List (List Nat) × List Nat) : (t.take (i + 1)).foldl wStep s = wStep ((t.take i).foldl wStep s) c := by
  have e : t.take (i + 1) = t.take i ++ [c] := by
    rw [List.take_add_one, h]
    rfl
  rw [e, List.foldl_append]
  rfl
/-- words are no longer than the text -/
theorem wRun_mem : ∀ (t : List Nat) (s : List (List Nat) × List Nat) (n : Nat), (∀ w ∈ s.1, w.length ≤ n) → s.2.length ≤ n → ∀ w ∈ (t.foldl wStep s).1, w.length ≤ n + t.length
  | [], s, n, h1, _, w, hw => h1 w hw
  | c :: r, s, n, h1, h2, w, hw => by
    have key : (∀ w ∈ (wStep s c).1, w.length ≤ n + 1) ∧ (wStep s c).2.length ≤ n + 1 := by
      unfold wStep
      split
      · split
        · exact ⟨fun w hw => Nat.le_succ_of_le (h1 w hw), Nat.le_succ_of_le h2⟩
        · refine ⟨fun w hw => ?_, Nat.zero_le _⟩
          rcases List.mem_append.mp hw with q | q
          · exact Nat.le_succ_of_le (h1 w q)
          · rw [List.mem_singleton.mp q]
            exact Nat.le_succ_of_le h2
      · refine ⟨fun w hw => Nat.le_succ_of_le (h1 w hw), ?_⟩
        simp only [List.length_append, List.length_cons, List.length_nil]
        omega
    have := wRun_mem r (wStep s c) (n + 1) key.1 key.2 w hw
    rw [List.length_cons]
    omega
theorem words_short (t : List Nat) : (Kh455.wordsOf t).length ≤ t.length + 1 ∧ ∀ w ∈ Kh455.wordsOf t, w.length ≤ t.length := by
  rw [← wEnd_all]
  have h := wRun_len t ([], [])
  have h2 := wRun_mem t ([], []) 0 (by simp) (Nat.le_refl _)
  unfold wEnd
  simp only [List.length_nil, Nat.zero_add] at h h2
  split
  · exact ⟨by omega, h2⟩
  · refine ⟨by simp; omega, fun w hw => ?_⟩
    rcases List.mem_append.mp hw with q | q
    · exact h2 w q
    · rw [List.mem_singleton.mp q]
      exact h.2
end Pm
namespace Pl
open PySem PySem.Spec PyProof.Rows L2
/-- a list (at p) of lists (at as) of numbers -/
structure Lists (H : Hp) (p : Addr) (as : List Addr) (ws : List (List Nat)) : Prop where
  lst : H p = some (.lst (as.map V.ref))
  len : as.length = ws.length
  at_ : ∀ (i : Nat) (a : Addr) (w : List Nat), as[i]? = some a → ws[i]? = some w → H a = some (.lst (vn w))
theorem Lists.same {H H' : Hp} {p : Addr} {as : List Addr} {ws : List (List Nat)} (L : Lists H p as ws) (s : Same H H') : Lists H' p as ws := ⟨s _ _ L.lst, L.len, fun i a w h1 h2 => s _ _ (L.at_ i a w h1 h2)⟩
/-- an object beside it changes -/
theorem Lists.beside {H : Hp} {p q : Addr} {o : HO} {as : List Addr} {ws : List (List Nat)} (L : Lists H p as ws) (h1 : p ≠ q) (h2 : q ∉ as) : Lists (upd H q o) p as ws := by
  refine ⟨?_, L.len, fun i a w e1 e2 => ?_⟩
  · rw [upd_ne h1]
    exact L.lst
  · have ne : a ≠ q := fun z => h2 (by rw [← z]; exact List.mem_of_getElem? e1)
    rw [upd_ne ne]
    exact L.at_ i a w e1 e2
/-- one more -/
theorem Lists.more {H : Hp} {p q : Addr} {as : List Addr} {ws : List (List Nat)} {w : List Nat} (L : Lists H p as ws) (hq : H q = some (.lst (vn w))) (h1 : q ≠ p) (h2 : p ∉ as) : Lists (upd H p (.lst (as.map V.ref ++ [.ref q]))) p (as ++ [q]) (ws ++ [w]) := by
  refine ⟨?_, by simp [L.len], fun i a v e1 e2 => ?_⟩
  · rw [upd_same, List.map_append]
    rfl
  · by_cases hi : i < as.length
    · rw [List.getElem?_append_left hi] at e1
      rw [List.getElem?_append_left (by rw [← L.len]; exact hi)] at e2
      have ne : a ≠ p := fun z => h2 (by rw [← z]; exact List.mem_of_getElem? e1)
      rw [upd_ne ne]
      exact L.at_ i a v e1 e2
    · have hi' : as.length ≤ i := Nat.le_of_not_lt hi
      rw [List.getElem?_append_right hi'] at e1
      rw [List.getElem?_append_right (by rw [← L.len]; exact hi'), ← L.len] at e2
      have z : i - as.length = 0 := by
        cases q0 : i - as.length with
        | zero => rfl
        | succ n =>
          rw [q0] at e1
          simp at e1
      rw [z] at e1 e2
      simp only [List.getElem?_cons_zero, Option.some.injEq] at e1 e2
      subst e1 e2
      rw [upd_ne h1]
      exact hq
def spWords (K : PySem.W.Frag) : Sp := fun vs H Q _ => ∃ (a : Addr) (t : List Nat), vs = [.ref a] ∧ SqL K H a (vn t) ∧ t.length ≤ 1000 ∧ ∀ (H' : Hp) (p : Addr) (as : List Addr), Same H H' → H p = none → (∀ x ∈ as, H x = none) → Lists H' p as (Kh455.wordsOf t) → Q (.ref p) H'
section
variable {P : Program} {w : World} {K : PySem.W.Frag} {mg : Str → Option Value} {base : Heap} {f : Addr} {fd : FuncData}
theorem scWords : FnScope ["text", "words", "word", "code"] ["text"] (defScope sWords) := ⟨rfl, rfl, rfl, by decide +kernel, rfl, by decide +kernel, by decide +kernel⟩
/-- what stands between two turns: the words that are ended at pw, the one under way at pd -/
structure WordsAt (H0 H : Hp) (pw pd : Addr) (as : List Addr) (s : List (List Nat) × List Nat) : Prop where
  same : Same H0 H
  w0 : H0 pw = none
  d0 : H0 pd = none
  ne : pw ≠ pd
  nw : pw ∉ as
  nd : pd ∉ as
  ls : Lists H pw as s.1
  wd : H pd = some (.lst (vn s.2))
  na : ∀ x ∈ as, H0 x = none
theorem vn_empty (l : List Nat) : (!(vn l).isEmpty) = !l.isEmpty := by
  cases l <;> rfl
theorem ok_words (F : Fun K "words_of" "words_of" sWords f fd) (DW : Def P w K mg base CX0 1 "is_white_space" ["code"] (spFlag Kh450.isWhite)) : FnOk P w K mg base CX0 4 f fd ["text"] (spWords K) := by
  refine F.ok scWords (fun vs H Q E h => ?_) (fun cdv A outer s H vs Q E hr h => ?_)
  · obtain ⟨a, t, rfl, _⟩ := h
    rfl
  · have hr1 : Room 1 _ := hr.mono (by decide)
    refine ⟨_, pss_cons (ps_set (i := 1) scWords.nd rfl (Or.inl rfl) (pe_lst pa_nil))
      (pss_cons (ps_set (i := 2) scWords.nd rfl (Or.inl rfl) (pe_lst pa_nil))
      (pss_cons (ps_for PassesOwn.never rfl (pi_list (pv 0)) (pg_name (i := 3) scWords.nd rfl (Or.inl rfl))
        (pss_one (ps_if (pt_not (pt_val (pe_d DW hr1 (by exact (pa_cons (pv 3) pa_nil)))))
          (pss_one (ps_expr (pe_bm PySem.F.plainAttrs_list PySem.F.slot_list_append PySem.F.type_list_append mt_append (pv 2) (pa_cons (pv 3) pa_nil))))
          (pss_one (ps_if (pt_truth (pv 2) (by intro _; rfl))
            (pss_cons (ps_expr (pe_bm PySem.F.plainAttrs_list PySem.F.slot_list_append PySem.F.type_list_append mt_append (pv 1) (pa_cons (pv 2) pa_nil)))
              (pss_one (ps_set (i := 2) scWords.nd rfl (Or.inl rfl) (pe_lst pa_nil))))
            pss_nil)))))
      (pss_cons (ps_if (pt_truth (pv 2) (by intro _; rfl))
        (pss_one (ps_expr (pe_bm PySem.F.plainAttrs_list PySem.F.slot_list_append PySem.F.type_list_append mt_append (pv 1) (pa_cons (pv 2) pa_nil))))
        pss_nil)
      (pss_one (ps_ret (pv 1)))))), ?_⟩
    obtain ⟨a, t, rfl, hS, hlen, k⟩ := h
    refine ⟨Nat.zero_le _, fun pw npw => ⟨Nat.zero_le _, fun pd npd => ?_⟩⟩
    have s1 : Same H (upd H pw (.lst [])) := (Same.refl H).new npw
    have hpd : H pd = none := s1.free npd
    have npwd : pw ≠ pd := fun z => by
      rw [← z, upd_same] at npd
      cases npd
    have s2 : Same H (upd (upd H pw (.lst [])) pd (.lst [])) := s1.new npd
    have W0 : WordsAt H (upd (upd H pw (.lst [])) pd (.lst [])) pw pd [] ([], []) :=
      ⟨s2, npw, hpd, npwd, List.not_mem_nil, List.not_mem_nil, ⟨by rw [upd_ne npwd, upd_same]; rfl, rfl, fun i a w e => by simp at e⟩, upd_same, fun x h => absurd h List.not_mem_nil⟩
    refine ⟨_, rfl, a, rfl, ⟨_, s2.seq hS⟩, for_list (K := K) (a := a) (xs := vn t)
      (fun i σ H' => ∃ (pd : Addr) (as : List Addr) (v : Option V), σ = [some (.ref a), some (.ref pw), some (.ref pd), v] ∧ WordsAt H H' pw pd as ((t.take i).foldl Pm.wStep ([], [])))
      ⟨pd, [], none, rfl, W0⟩ (fun i σ H' _ ⟨_, _, _, _, W⟩ => W.same.seq hS) ?_ ?_⟩
    · rintro i x σ H' hi ⟨pd, as, v, rfl, W⟩
      obtain ⟨c, hc, rfl⟩ := vn_of hi
      have more := Pm.wRun_more hc ([], [])
      have short := Pm.wRun_len (t.take i) ([], [])
      have hti : (t.take i).length ≤ 1000 := by
        rw [List.length_take]
        omega
      simp only [List.length_nil, Nat.zero_add] at short
      generalize (t.take i).foldl Pm.wStep ([], []) = st at W more short
      refine ⟨_, rfl, c, rfl, fun H1 e1 => ⟨_, rfl, ?_⟩⟩
      have hwd := e1 _ _ W.wd
      have hls := W.ls.same e1
      cases ew : Kh450.isWhite c with
      | false =>
        have es : Pm.wStep st c = (st.1, st.2 ++ [c]) := by
          unfold Pm.wStep
          rw [ew, if_neg Bool.false_ne_true]
        rw [es] at more
        refine iteT ?_
        refine ⟨_, rfl, .inl ⟨rfl, _, SqL.of hwd⟩, _, rfl, pd, _, _, rfl, rfl, hwd, small1000 (by rw [vn_len]; omega), ?_⟩
        refine ⟨pd, as, some (.int c), rfl, ?_⟩
        rw [more]
        refine ⟨(W.same.trans e1).own W.d0, W.w0, W.d0, W.ne, W.nw, W.nd, hls.beside W.ne W.nd, ?_, W.na⟩
        rw [upd_same, vn_snoc]
      | true =>
        refine iteF ?_
        refine ⟨_, rfl, _, .inl ⟨_, SqL.of hwd, rfl⟩, ?_⟩
        rw [vn_empty]
        cases en : st.2.isEmpty with
        | true =>
          have es : Pm.wStep st c = st := by
            unfold Pm.wStep
            rw [ew, if_pos rfl, if_pos en]
          rw [es] at more
          refine iteF ⟨pd, as, some (.int c), rfl, ?_⟩
          rw [more]
          exact ⟨W.same.trans e1, W.w0, W.d0, W.ne, W.nw, W.nd, hls, hwd, W.na⟩
        | false =>
          have es : Pm.wStep st c = (st.1 ++ [st.2], []) := by
            unfold Pm.wStep
            rw [ew, if_pos rfl, if_neg (by rw [en]; exact Bool.false_ne_true)]
          rw [es] at more
          refine iteT ?_
          refine ⟨_, rfl, .inl ⟨rfl, _, SqL.of hls.lst⟩, _, rfl, pw, _, _, rfl, rfl, hls.lst, small1000 (by rw [List.length_map, hls.len]; omega), ?_⟩
          have L2' := hls.more hwd W.ne.symm W.nw
          refine ⟨Nat.zero_le _, fun q nq => ?_⟩
          have S2 : Same H (upd H1 pw (.lst (as.map V.ref ++ [.ref pd]))) := (W.same.trans e1).own W.w0
          have q0 : H q = none := S2.free nq
          have qpw : pw ≠ q := ne_of_none L2'.lst nq
          have qas : q ∉ as ++ [pd] := fun z => by
            obtain ⟨j, hj, e⟩ := List.getElem_of_mem z
            have e1' : (as ++ [pd])[j]? = some q := by rw [List.getElem?_eq_getElem hj, e]
            have hj2 : j < (st.1 ++ [st.2]).length := by rw [← L2'.len]; exact hj
            have z2 := L2'.at_ j q _ e1' (List.getElem?_eq_getElem hj2)
            rw [nq] at z2
            cases z2
          refine ⟨q, as ++ [pd], some (.int c), rfl, ?_⟩
          rw [more]
          refine ⟨S2.new nq, W.w0, q0, qpw, fun z => ?_, qas, L2'.beside qpw qas, upd_same, fun x hx => ?_⟩
          · rcases List.mem_append.mp z with z | z
            · exact W.nw z
            · exact W.ne (List.mem_singleton.mp z)
          · rcases List.mem_append.mp hx with z | z
            · exact W.na x z
            · rw [List.mem_singleton.mp z]
              exact W.d0
    · rintro σ H' ⟨pd, as, v, rfl, W⟩
      rw [vn_len, List.take_length] at W
      have done := Pm.wEnd_all t
      have short := Pm.wRun_len t ([], [])
      simp only [List.length_nil, Nat.zero_add] at short
      generalize t.foldl Pm.wStep ([], []) = st at W done short
      refine ⟨_, rfl, _, .inl ⟨_, SqL.of W.wd, rfl⟩, ?_⟩
      rw [vn_empty]
      unfold Pm.wEnd at done
      cases en : st.2.isEmpty with
      | true =>
        rw [en, if_pos rfl] at done
        have W' := W.ls
        rw [done] at W'
        exact iteF ⟨_, rfl, k H' pw as W.same W.w0 W.na W'⟩
      | false =>
        rw [en, if_neg Bool.false_ne_true] at done
        refine iteT ?_
        refine ⟨_, rfl, .inl ⟨rfl, _, SqL.of W.ls.lst⟩, _, rfl, pw, _, _, rfl, rfl, W.ls.lst, small1000 (by rw [List.length_map, W.ls.len]; omega), ?_⟩
        have L' := W.ls.more W.wd W.ne.symm W.nw
        rw [done] at L'
        refine ⟨_, rfl, k _ pw _ (W.same.own W.w0) W.w0 (fun x hx => ?_) L'⟩
        rcases List.mem_append.mp hx with z | z
        · exact W.na x z
        · rw [List.mem_singleton.mp z]
          exact W.d0
end
end Pl

namespace Pm
theorem pRun_cat : ∀ (u t : List Nat) (s : List Nat × List Nat × Bool), pRun (u ++ t) s = (pRun u s).bind (pRun t)
  | [], t, s => rfl
  | c :: u, t, s => by
    show (pStep s c).bind (pRun (u ++ t)) = ((pStep s c).bind (pRun u)).bind (pRun t)
    cases pStep s c with
    | none => rfl
    | some q => exact pRun_cat u t q
/-- it raises in the middle -/
theorem pRun_fails {w : List Nat} {i : Nat} {s : List Nat × List Nat × Bool} (h : pRun (w.take i) s = none) : pRun w s = none := by
  rw [← List.take_append_drop i w, pRun_cat, h]
  rfl
theorem patOf_fails {w : List Nat} (h : pRun w ([], [0], false) = none) : patOf w = none := by
  have := pRun_all w
  rw [h] at this
  unfold patOf
  cases e : Kh455.readPattern w with
  | none => rfl
  | some p =>
    rw [e] at this
    cases this
theorem patOf_reads {w l v : List Nat} {b : Bool} (h : pRun w ([], [0], false) = some (l, v, b)) : patOf w = if l.isEmpty then none else some ⟨l, v⟩ := by
  have := pRun_all w
  rw [h] at this
  unfold patOf
  cases e : Kh455.readPattern w with
  | none =>
    rw [e] at this
    cases this
  | some p =>
    rw [e] at this
    obtain ⟨pl, pv⟩ := p
    simp only [Option.map_some, Option.some.injEq, Prod.mk.injEq] at this
    obtain ⟨rfl, rfl⟩ := this
    rfl
/-- the lists of the loop stay short -/
theorem pRun_len : ∀ (w : List Nat) (s q : List Nat × List Nat × Bool), pRun w s = some q → q.1.length ≤ s.1.length + w.length ∧ q.2.1.length ≤ s.2.1.length + w.length ∧ s.2.1.length ≤ q.2.1.length
  | [], s, q, h => by
    cases h
    exact ⟨Nat.le_refl _, Nat.le_refl _, Nat.le_refl _⟩
  | c :: w, s, q, h => by
    have h' : (pStep s c).bind (pRun w) = some q := h
    cases e : pStep s c with
    | none =>
      rw [e] at h'
      cases h'
    | some s' =>
      rw [e] at h'
      have ih := pRun_len w s' q h'
      have hs : s'.1.length ≤ s.1.length + 1 ∧ s'.2.1.length ≤ s.2.1.length + 1 ∧ s.2.1.length ≤ s'.2.1.length := by
        unfold pStep at e
        split at e
        · split at e
          · cases e
          · cases e
            simp
        · split at e
          · cases e
            simp
          · cases e
      rw [List.length_cons]
      omega
theorem pRun_more {w : List Nat} {i c : Nat} {s q : List Nat × List Nat × Bool} (hc : w[i]? = some c) (h : pRun (w.take i) s = some q) : pRun (w.take (i + 1)) s = pStep q c := by
  have e : w.take (i + 1) = w.take i ++ [c] := by
    rw [List.take_add_one, hc]
    rfl
  rw [e, pRun_snoc, h]
  rfl
end Pm
namespace L2
open PySem PySem.Spec PyProof.Rows
theorem PS.weaker {X : Cx} {st : Stmt} {t t' : TS} (h : PS X st t) (i : ∀ D σ H, t' D σ H → t D σ H) : PS X st t' := ⟨fun pins s σ H D I q => h.run pins s σ H D I (i D σ H q)⟩
theorem PE.weaker {X : Cx} {e : Expr} {t t' : TE} (h : PE X e t) (i : ∀ σ H Q, t' σ H Q → t σ H Q) : PE X e t' := ⟨fun pins s σ H Q I q => h.run pins s σ H Q I (i σ H Q q)⟩
end L2
namespace Pl
open PySem PySem.Spec PyProof.Rows L2
/-! ### refusals -/
abbrev fAns (n : Int) : List (Str × V) := [(("answer" : Str), .int n)]
/-- Refusal.__init__(self, answer) -/
def spRefI (K : PySem.W.Frag) : Sp := fun vs H Q _ => ∃ (a C : Addr) (n : Int), vs = [.ref a, .int n] ∧ ErrC K C ∧ PySem.W.findIn K (.ref C) "answer" = some none ∧ H a = some (exo a C none) ∧
  ∀ dx, H dx = none → dx ≠ a → Q .non (upd (upd H dx (exd dx (fAns n))) a (exo a C (some dx)))
/-- .. of a refusal of the code n, at C -/
def spErrI (C : Addr) (n : Int) : Sp := fun vs H Q _ => ∃ a : Addr, vs = [.ref a] ∧ H a = some (exo a C none) ∧ ∀ dx, H dx = none → dx ≠ a → Q .non (upd (upd H dx (exd dx (fAns n))) a (exo a C (some dx)))
/-- what is known of such a class -/
structure Err (P : Program) (w : World) (K : PySem.W.Frag) (mg : Str → Option Value) (base : Heap) (x : Str) (C : Addr) (n : Int) : Prop where
  cls : ErrC K C
  mgC : mg x = some (.ref C)
  ini : ∃ fI fd, PySem.W.findIn K (.ref C) "__init__" = some (some (.ref fI)) ∧ PySem.W.typeIn K (.ref fI) = some (.type "function") ∧ Binds K fd ["self"] [] ∧ FnOk P w K mg base CX0 3 fI fd ["self"] (spErrI C n)
/-- what a raise hands on: a new dict that bears the code -/
def tErr (C : Addr) (n : Int) (W : WX) : TS := fun _ σ H => ∀ d, H d = none → W (.ref C) (some d) σ (upd H d (.xd (fAns n)))
theorem ps_refuse {X : Cx} {W : WX} {x : Str} {C : Addr} {n : Int} {p pos pos2 : Pos} (hc : X.calm = true) (T : Err X.prog X.w X.K X.mg X.base x C n) (hr : Room 4 X.A) (tk : Takes X W) (hg : Gl X x := by rfl) (hdb : (x == ("__debug__" : Str)) = false := by decide) :
    PS X (.Raise (some (.Call (.Name x p) [] [] pos)) none pos2) (tErr C n W) := by
  obtain ⟨fI, fd, iC, tI, hb, F⟩ := T.ini
  refine (ps_raise hc tk (pmk_err T.cls iC tI F hr hb pass0 hg T.mgC hdb)).weaker fun D σ H h a na => ?_
  refine ⟨a, rfl, upd_same, fun dx ndx ne => ⟨rfl, dx, fAns n, upd_same, ?_, ?_, ?_⟩⟩
  · rw [upd_ne ne, upd_same]
  · rw [upd_ne ne] at ndx
    exact ndx
  · rw [upd_ne ne] at ndx
    have e : upd (del (upd (upd (upd H a (exo a C none)) dx (exd dx (fAns n))) a (exo a C (some dx))) a) dx (.xd (fAns n)) = upd H dx (.xd (fAns n)) := by
      funext b
      by_cases h1 : b = dx
      · rw [h1, upd_same, upd_same]
      · rw [upd_ne h1, upd_ne h1]
        by_cases h2 : b = a
        · rw [h2, del_same, na]
        · rw [del_ne h2, upd_ne h2, upd_ne h1, upd_ne h2]
    rw [e]
    exact h dx ndx
section
variable {P : Program} {w : World} {K : PySem.W.Frag} {mg : Str → Option Value} {base : Heap} {f : Addr} {fd : FuncData}
theorem scRefI : FnScope ["self", "answer"] ["self", "answer"] (defScope sRefI) := ⟨rfl, rfl, rfl, by decide +kernel, rfl, by decide +kernel, by decide +kernel⟩
theorem ok_refI (F : Fun K "__init__" "Refusal.__init__" sRefI f fd) : FnOk P w K mg base CX0 1 f fd ["self", "answer"] (spRefI K) := by
  refine F.ok scRefI (fun vs H Q E h => ?_) (fun cdv A outer s H vs Q E hr h => ⟨_, pss_one (ps_errF (pv 0) (pv 1)), ?_⟩)
  · obtain ⟨a, C, n, rfl, _⟩ := h
    rfl
  · obtain ⟨a, C, n, rfl, T, no, ha, k⟩ := h
    exact ⟨_, rfl, _, rfl, a, C, rfl, T, no, ha, k⟩
/-- the base class as it is read: Refusal.__init__ -/
structure BaseI (P : Program) (w : World) (K : PySem.W.Frag) (mg : Str → Option Value) (base : Heap) : Prop where
  ini : ∃ (CR fR : Addr) (mc : Value) (fd : FuncData), mg "Refusal" = some (.ref CR) ∧ ClX.CRead K CR mc ∧ ClX.CVal K CR mc "__init__" (.ref fR) (.ref fR) ∧ PySem.W.keepIn K (.ref fR) = true ∧
    Binds K fd ["self", "answer"] [] ∧ FnOk P w K mg base CX0 1 fR fd ["self", "answer"] (spRefI K)
theorem scNpI : FnScope ["self"] ["self"] (defScope sNpI) := ⟨rfl, rfl, rfl, by decide +kernel, rfl, by decide +kernel, by decide +kernel⟩
theorem ok_npI {C : Addr} (F : Fun K "__init__" "NotPatterns.__init__" sNpI f fd) (T : ErrC K C) (no : PySem.W.findIn K (.ref C) "answer" = some none) (B : BaseI P w K mg base) : FnOk P w K mg base CX0 3 f fd ["self"] (spErrI C (-21)) := by
  obtain ⟨CR, fR, mc, fdR, hm, r, c, kp, hb, G⟩ := B.ini
  refine F.ok scNpI (fun vs H Q E h => ?_) (fun cdv A outer s H vs Q E hr h => ⟨_, pss_one (ps_expr (pe_base r c G (hr.mono (by decide)) kp hb pass0 rfl hm (by exact (pa_cons (pv 0) (pa_cons (pe_un un_neg pe_int) pa_nil))))), ?_⟩)
  · obtain ⟨a, rfl, _⟩ := h
    rfl
  · obtain ⟨a, rfl, ha, k⟩ := h
    exact ⟨_, rfl, 21, rfl, a, C, -21, rfl, T, no, ha, k⟩
theorem scNuI : FnScope ["self"] ["self"] (defScope sNuI) := ⟨rfl, rfl, rfl, by decide +kernel, rfl, by decide +kernel, by decide +kernel⟩
theorem ok_nuI {C : Addr} (F : Fun K "__init__" "NotUtf8.__init__" sNuI f fd) (T : ErrC K C) (no : PySem.W.findIn K (.ref C) "answer" = some none) (B : BaseI P w K mg base) : FnOk P w K mg base CX0 3 f fd ["self"] (spErrI C (-24)) := by
  obtain ⟨CR, fR, mc, fdR, hm, r, c, kp, hb, G⟩ := B.ini
  refine F.ok scNuI (fun vs H Q E h => ?_) (fun cdv A outer s H vs Q E hr h => ⟨_, pss_one (ps_expr (pe_base r c G (hr.mono (by decide)) kp hb pass0 rfl hm (by exact (pa_cons (pv 0) (pa_cons (pe_un un_neg pe_int) pa_nil))))), ?_⟩)
  · obtain ⟨a, rfl, _⟩ := h
    rfl
  · obtain ⟨a, rfl, ha, k⟩ := h
    exact ⟨_, rfl, 24, rfl, a, C, -24, rfl, T, no, ha, k⟩

/-! ### patterns -/
abbrev fPat (la va : Addr) : List (Str × V) := [(("letters" : Str), .ref la), (("levels" : Str), .ref va)]
/-- a Pattern's four objects: itself, its dict, its letters, its levels -/
abbrev P4 := Addr × Addr × Addr × Addr
structure PatAt (C : Addr) (H : Hp) (q : P4) (p : Kh455.Pattern) : Prop where
  ins : H q.1 = some (.ins C q.2.1 (fPat q.2.2.1 q.2.2.2))
  lt : H q.2.2.1 = some (.lst (vn p.letters))
  lv : H q.2.2.2 = some (.lst (vn p.levels))
theorem PatAt.same {C : Addr} {H H' : Hp} {q : P4} {p : Kh455.Pattern} (x : PatAt C H q p) (s : Same H H') : PatAt C H' q p := ⟨s _ _ x.ins, s _ _ x.lt, s _ _ x.lv⟩
/-- none of them is at D -/
def P4.off (q : P4) (D : Addr) : Prop := q.1 ≠ D ∧ q.2.2.1 ≠ D ∧ q.2.2.2 ≠ D
theorem PatAt.beside {C D : Addr} {H : Hp} {o : HO} {q : P4} {p : Kh455.Pattern} (x : PatAt C H q p) (h : q.off D) : PatAt C (upd H D o) q p :=
  ⟨by rw [upd_ne h.1]; exact x.ins, by rw [upd_ne h.2.1]; exact x.lt, by rw [upd_ne h.2.2]; exact x.lv⟩
structure TPat (K : PySem.W.Frag) (mg : Str → Option Value) (C : Addr) : Prop where
  cl : Cls K C
  nL : NoAttr K C "letters"
  nV : NoAttr K C "levels"
  gC : mg "Pattern" = some (.ref C)
  pt : IntG mg "POINT" 46
def spPatI (C : Addr) : Sp := fun vs H Q _ => ∃ (p dx la va : Addr), vs = [.ref p, .ref la, .ref va] ∧ H p = some (.ins C dx []) ∧ ∀ H' : Hp, H' p = some (.ins C dx (fPat la va)) → (∀ b, b ≠ p → H' b = H b) → Q .non H'
theorem scPatI : FnScope ["self", "letters", "levels"] ["self", "letters", "levels"] (defScope sPatI) := ⟨rfl, rfl, rfl, by decide +kernel, rfl, by decide +kernel, by decide +kernel⟩
theorem ok_patI {C : Addr} (F : Fun K "__init__" "Pattern.__init__" sPatI f fd) (T : TPat K mg C) : FnOk P w K mg base CX0 1 f fd ["self", "letters", "levels"] (spPatI C) := by
  refine F.ok scPatI (fun vs H Q E h => ?_) (fun cdv A outer s H vs Q E hr h => ⟨_, pss_cons (ps_fld (pv 0) (pv 1) rfl) (pss_one (ps_fld (pv 0) (pv 2) rfl)), ?_⟩)
  · obtain ⟨p, dx, la, va, rfl, _⟩ := h
    rfl
  · obtain ⟨p, dx, la, va, rfl, hp, k⟩ := h
    refine ⟨_, rfl, _, rfl, p, C, dx, [], rfl, hp, T.cl, T.nL, (by show 0 < 1000; decide), ?_⟩
    refine ⟨_, rfl, _, rfl, p, C, dx, _, rfl, upd_same, T.cl, T.nV, (by show 1 < 1000; decide), ?_⟩
    refine k _ ?_ fun b hb => by rw [upd_ne hb, upd_ne hb]
    rw [upd_same]
    have e : putF "levels" (.ref va) (putF "letters" (.ref la) ([] : List (Str × V))) = fPat la va := by
      show putF "levels" (.ref va) [(("letters" : Str), V.ref la)] = _
      unfold putF
      rw [if_neg (by decide +kernel)]
      rfl
    exact congrArg (fun q => some (HO.ins C dx q)) e
/-- pattern_of: it raises, or hands back a new Pattern -/
def spPat (K : PySem.W.Frag) (C CE : Addr) : Sp := fun vs H Q E => ∃ (a : Addr) (w : List Nat), vs = [.ref a] ∧ SqL K H a (vn w) ∧ w.length ≤ 1000 ∧
  (Pm.patOf w = none → ∀ (d : Addr) (H' : Hp), Same H H' → H' d = some (.xd (fAns (-21))) → E (.ref CE) (some d) H') ∧
  (∀ p, Pm.patOf w = some p → ∀ (H' : Hp) (q : P4), Same H H' → (∀ b, H b ≠ none → q.off b) → PatAt C H' q p → Q (.ref q.1) H')
theorem scPat : FnScope ["word", "letters", "levels", "after_digit", "code"] ["word"] (defScope sPat) := ⟨rfl, rfl, rfl, by decide +kernel, rfl, by decide +kernel, by decide +kernel⟩
theorem vn_set (l : List Nat) (i n : Nat) : (vn l).set i (.int n) = vn (l.set i n) := by
  unfold vn
  rw [List.map_set]
structure PatLoop (H0 H : Hp) (pl pv : Addr) (l v : List Nat) : Prop where
  same : Same H0 H
  l0 : H0 pl = none
  v0 : H0 pv = none
  ne : pl ≠ pv
  lt : H pl = some (.lst (vn l))
  lv : H pv = some (.lst (vn v))
theorem PatLoop.later {H0 H H' : Hp} {pl pv : Addr} {l v : List Nat} (x : PatLoop H0 H pl pv l v) (s : Same H H') : PatLoop H0 H' pl pv l v := ⟨x.same.trans s, x.l0, x.v0, x.ne, s _ _ x.lt, s _ _ x.lv⟩
/-- a letter is taken -/
theorem pat_accept {D : Ends} {H0 H : Hp} {a pl pv : Addr} {c : Nat} {l v : List Nat} {b : Bool} (x : PatLoop H0 H pl pv l v) (h1 : l.length ≤ 900000) (h2 : v.length ≤ 900000)
    (k : ∀ H', PatLoop H0 H' pl pv (l ++ [c]) (v ++ [0]) → D.nx [some (.ref a), some (.ref pl), some (.ref pv), some (.bl false), some (.int c)] H') :
    tSeq (tDrop (tBM K "list" rAppend (tVar 1) (tCons (tVar 4) tNil))) (tSeq (tDrop (tBM K "list" rAppend (tVar 2) (tCons (tC (.int 0)) tNil))) (tAsg (tC (.bl false)) (gName 3))) D
      [some (.ref a), some (.ref pl), some (.ref pv), some (.bl b), some (.int c)] H := by
  have big : 900000 < sizeLine := by decide
  refine ⟨_, rfl, .inl ⟨rfl, _, SqL.of x.lt⟩, _, rfl, pl, _, _, rfl, rfl, x.lt, (by rw [vn_len]; omega), ?_⟩
  have hv : upd H pl (.lst (vn l ++ [.int c])) pv = some (.lst (vn v)) := by
    rw [upd_ne x.ne.symm]
    exact x.lv
  refine ⟨_, rfl, .inl ⟨rfl, _, SqL.of hv⟩, pv, _, _, rfl, rfl, hv, (by rw [vn_len]; omega), ?_⟩
  refine k _ ⟨(x.same.own x.l0).own x.v0, x.l0, x.v0, x.ne, ?_, ?_⟩
  · rw [upd_ne x.ne, upd_same, vn_snoc]
  · rw [upd_same]
    exact congrArg (fun q => some (HO.lst q)) (vn_snoc v 0)
theorem ok_pat {C CE fI : Addr} {fdI : FuncData} (F : Fun K "pattern_of" "pattern_of" sPat f fd) (T : TPat K mg C) (TC : TChr mg) (M : Mk K C fI) (GI : FnOk P w K mg base CX0 1 fI fdI ["self", "letters", "levels"] (spPatI C)) (bI : Binds K fdI ["self", "letters", "levels"] [])
    (TE : Err P w K mg base "NotPatterns" CE (-21)) (DD : Def P w K mg base CX0 1 "is_digit" ["code"] (spFlag Kh450.isDigit)) (DS : Def P w K mg base CX0 1 "is_small_letter" ["code"] (spFlag Kh450.isLower)) :
    FnOk P w K mg base (L2.CX P w) 8 f fd ["word"] (spPat K C CE) := by
  refine F.okX scPat (fun vs H Q E h => ?_) (fun cdv A outer s H vs Q E hr h => ?_)
  · obtain ⟨a, t, rfl, _⟩ := h
    rfl
  · have hr1 : Room 1 _ := hr.mono (by decide)
    have hr2 : Room 2 _ := hr.mono (by decide)
    have hr4 : Room 4 _ := hr.mono (by decide)
    refine ⟨_, pss_cons (ps_set (i := 1) scPat.nd rfl (Or.inl rfl) (pe_lst pa_nil))
      (pss_cons (ps_set (i := 2) scPat.nd rfl (Or.inl rfl) (pe_lst (pa_cons pe_int pa_nil)))
      (pss_cons (ps_set (i := 3) scPat.nd rfl (Or.inl rfl) pe_bl)
      (pss_cons (ps_for (passes_of rfl) rfl (pi_list (pv 0)) (pg_name (i := 4) scPat.nd rfl (Or.inl rfl))
        (pss_one (ps_if (pt_val (pe_d DD hr1 (by exact (pa_cons (pv 4) pa_nil))))
          (pss_cons (ps_if (pt_val (pv 3)) (pss_one (ps_refuse rfl TE hr4 (takes_of rfl rfl rfl rfl))) pss_nil)
            (pss_cons (ps_asg (pe_op op_sub (pv 4) (pe_gi TC.D0)) (pg_sub (pv 2) (pe_un un_neg pe_int) set_list))
            (pss_one (ps_set (i := 3) scPat.nd rfl (Or.inl rfl) pe_bl))))
          (pss_one (ps_if (PW.pt (pw_or (pt_val (pe_d DS hr1 (by exact (pa_cons (pv 4) pa_nil)))) (pw_or1 (pt_cmpR op_eq (pv 4) (pe_gi T.pt) (nomark _)))))
            (pss_cons (ps_expr (pe_bm PySem.F.plainAttrs_list PySem.F.slot_list_append PySem.F.type_list_append mt_append (pv 1) (pa_cons (pv 4) pa_nil)))
              (pss_cons (ps_expr (pe_bm PySem.F.plainAttrs_list PySem.F.slot_list_append PySem.F.type_list_append mt_append (pv 2) (pa_cons pe_int pa_nil)))
              (pss_one (ps_set (i := 3) scPat.nd rfl (Or.inl rfl) pe_bl))))
            (pss_one (ps_refuse rfl TE hr4 (takes_of rfl rfl rfl rfl))))))))
      (pss_cons (ps_if (pt_not (pt_truth (pv 1) (by intro _; rfl))) (pss_one (ps_refuse rfl TE hr4 (takes_of rfl rfl rfl rfl))) pss_nil)
      (pss_one (ps_ret (pe_make M GI hr2 rfl T.gC bI .nil pass0 (by exact (pa_cons (pv 1) (pa_cons (pv 2) pa_nil))))))))))  , ?_⟩
    obtain ⟨a, t, rfl, hS, hlen, kN, kS⟩ := h
    have big : 900000 < sizeLine := by decide
    refine ⟨Nat.zero_le _, fun pl npl => ⟨(by show 1 ≤ sizeLine; decide), fun pv npv => ?_⟩⟩
    have s1 : Same H (upd H pl (.lst [])) := (Same.refl H).new npl
    have hpv : H pv = none := s1.free npv
    have ne0 : pl ≠ pv := fun z => by
      rw [← z, upd_same] at npv
      cases npv
    have L0 : PatLoop H (upd (upd H pl (.lst [])) pv (.lst [.int (0 : Nat)])) pl pv [] [0] := ⟨s1.new npv, npl, hpv, ne0, by rw [upd_ne ne0, upd_same]; rfl, upd_same⟩
    -- what a raise hands on
    have refuse : Pm.patOf t = none → ∀ H1, Same H H1 → ∀ d, H1 d = none → E (.ref CE) (some d) (upd H1 d (.xd (fAns (-21)))) := fun e H1 s1 d nd => kN e d _ (s1.new nd) upd_same
    refine ⟨_, rfl, a, rfl, ⟨_, L0.same.seq hS⟩, for_list (K := K) (a := a) (xs := vn t)
      (fun i σ H' => ∃ (l v : List Nat) (b : Bool) (x : Option V), σ = [some (.ref a), some (.ref pl), some (.ref pv), some (.bl b), x] ∧ PatLoop H H' pl pv l v ∧ Pm.pRun (t.take i) ([], [0], false) = some (l, v, b))
      ⟨[], [0], false, none, rfl, L0, rfl⟩ (fun i σ H' _ ⟨_, _, _, _, _, L, _⟩ => L.same.seq hS) ?_ ?_⟩
    · rintro i x σ H' hi ⟨l, v, b, x4, rfl, L, hrun⟩
      obtain ⟨c, hc, rfl⟩ := vn_of hi
      have more := Pm.pRun_more hc hrun
      have short := Pm.pRun_len _ _ _ hrun
      simp only [List.length_nil, List.length_cons, List.length_take] at short
      have fails : Pm.pStep (l, v, b) c = none → Pm.patOf t = none := fun e => Pm.patOf_fails (Pm.pRun_fails (i := i + 1) (more.trans e))
      refine ⟨_, rfl, c, rfl, fun H1 e1 => ⟨_, rfl, ?_⟩⟩
      have L1 := L.later e1
      cases ed : Kh450.isDigit c with
      | true =>
        refine iteT ⟨_, rfl, _, rfl, ?_⟩
        cases b with
        | true =>
          refine iteT fun d nd => refuse (fails ?_) H1 L1.same d nd
          unfold Pm.pStep
          rw [if_pos ed, if_pos rfl]
        | false =>
          have es : Pm.pStep (l, v, false) c = some (l, v.set (v.length - 1) (c - 48), true) := by
            unfold Pm.pStep
            rw [if_pos ed, if_neg Bool.false_ne_true]
          have c48 : ((c : Int) - 48) = ((c - 48 : Nat) : Int) := by
            unfold Kh450.isDigit at ed
            simp only [Bool.and_eq_true, decide_eq_true_eq] at ed
            omega
          refine iteF ⟨_, rfl, _, _, rfl, rfl, _, rfl, _, rfl, pv, vn v, -1, v.length - 1, rfl, rfl, L1.lv, ?_, ?_⟩
          · unfold ixN
            rw [vn_len, if_neg (by decide), if_pos (by omega)]
            congr 1
            omega
          · refine ⟨l, v.set (v.length - 1) (c - 48), true, some (.int c), rfl, ?_, more.trans es⟩
            refine ⟨L1.same.own L1.v0, L1.l0, L1.v0, L1.ne, ?_, ?_⟩
            · rw [upd_ne L1.ne]
              exact L1.lt
            · rw [upd_same]
              show some (HO.lst ((vn v).set (v.length - 1) (.int ((c : Int) - 48)))) = _
              rw [c48, vn_set]
      | false =>
        refine iteF ⟨_, rfl, c, rfl, fun H2 e2 => ⟨_, rfl, ?_⟩⟩
        have L2' := L1.later e2
        have accept : (Kh450.isLower c || c == 46) = true → Pm.pStep (l, v, b) c = some (l ++ [c], v ++ [0], false) := fun e => by
          unfold Pm.pStep
          rw [if_neg (by rw [ed]; exact Bool.false_ne_true), if_pos e]
        cases el : Kh450.isLower c with
        | true =>
          refine iteT (iteT ?_)
          exact pat_accept L2' (by omega) (by omega) fun H3 L3 => ⟨_, _, _, some (.int c), rfl, L3, more.trans (accept (by rw [el]; rfl))⟩
        | false =>
          refine iteF ⟨_, rfl, rfl, _, rfl, ?_⟩
          by_cases e46 : c = 46
          · refine if_true_of (by rw [e46]; rfl) ?_
            exact pat_accept L2' (by omega) (by omega) fun H3 L3 => ⟨_, _, _, some (.int c), rfl, L3, more.trans (accept (by rw [e46]; rfl))⟩
          · refine if_false_of (decide_eq_false fun z => e46 ?_) fun d nd => refuse (fails ?_) H2 L2'.same d nd
            · injection z with z
              omega
            · unfold Pm.pStep
              rw [if_neg (by rw [ed]; exact Bool.false_ne_true), if_neg]
              rw [el, Bool.false_or, beq_iff_eq]
              exact e46
    · rintro σ H' ⟨l, v, b, x4, rfl, L, hrun⟩
      rw [vn_len, List.take_length] at hrun
      have reads := Pm.patOf_reads hrun
      refine ⟨_, rfl, _, .inl ⟨_, SqL.of L.lt, rfl⟩, ?_⟩
      rw [vn_empty]
      cases en : l.isEmpty with
      | true =>
        rw [en, if_pos rfl] at reads
        exact iteT fun d nd => refuse reads H' L.same d nd
      | false =>
        rw [en, if_neg Bool.false_ne_true] at reads
        refine iteF ⟨_, rfl, _, rfl, fun x dx nx ndx ne => ?_⟩
        refine ⟨x, dx, pl, pv, rfl, upd_same, fun H2 hx hb => ⟨rfl, ?_⟩⟩
        have old : Same H' H2 := fun b o e => by
          have bx : b ≠ x := ne_of_none e nx
          have bdx : b ≠ dx := ne_of_none e ndx
          rw [hb b bx, upd_ne bx, upd_ne bdx]
          exact e
        refine kS _ reads H2 (x, dx, pl, pv) (L.same.trans old) (fun b hne => ⟨fun z => ?_, fun z => ?_, fun z => ?_⟩) ⟨hx, old _ _ L.lt, old _ _ L.lv⟩
        · have z' : x = b := z
          rw [← z'] at hne
          exact hne (L.same.free nx)
        · have z' : pl = b := z
          rw [← z'] at hne
          exact hne L.l0
        · have z' : pv = b := z
          rw [← z'] at hne
          exact hne L.v0
end
end Pl

namespace Pm
theorem pats_snoc : ∀ (u : List (List Nat)) (w : List Nat), pats (u ++ [w]) = (pats u).bind fun l => (patOf w).map fun p => l ++ [p]
  | [], w => by
    show (match patOf w, pats [] with | some p, some l => some (p :: l) | _, _ => none) = _
    show _ = (patOf w).map fun p => [p]
    cases patOf w <;> rfl
  | a :: u, w => by
    show (match patOf a, pats (u ++ [w]) with | some p, some l => some (p :: l) | _, _ => none) = (match patOf a, pats u with | some p, some l => some (p :: l) | _, _ => none : Option (List Kh455.Pattern)).bind _
    rw [pats_snoc u w]
    cases patOf a with
    | none => rfl
    | some p =>
      cases pats u with
      | none => rfl
      | some l =>
        cases patOf w <;> rfl
theorem pats_fails : ∀ (ws : List (List Nat)) (w : List Nat), w ∈ ws → patOf w = none → pats ws = none
  | a :: r, w, hw, h => by
    show (match patOf a, pats r with | some p, some l => some (p :: l) | _, _ => none) = none
    rcases List.mem_cons.mp hw with z | z
    · rw [← z, h]
    · rw [pats_fails r w z h]
      cases patOf a <;> rfl
theorem pats_len : ∀ (ws : List (List Nat)) (l : List Kh455.Pattern), pats ws = some l → l.length = ws.length
  | [], l, h => by
    cases h
    rfl
  | w :: r, l, h => by
    have h' : (match patOf w, pats r with | some p, some l => some (p :: l) | _, _ => none) = some l := h
    cases e : patOf w with
    | none =>
      rw [e] at h'
      cases h'
    | some p =>
      cases e2 : pats r with
      | none =>
        rw [e, e2] at h'
        cases h'
      | some l' =>
        rw [e, e2] at h'
        cases h'
        rw [List.length_cons, List.length_cons, pats_len r l' e2]
end Pm
namespace Pl
open PySem PySem.Spec PyProof.Rows L2
/-- a list (at l) of Patterns -/
structure Pats (C : Addr) (H : Hp) (l : Addr) (qs : List P4) (ps : List Kh455.Pattern) : Prop where
  lst : H l = some (.lst (qs.map fun q : P4 => V.ref q.1))
  len : qs.length = ps.length
  at_ : ∀ (i : Nat) (q : P4) (p : Kh455.Pattern), qs[i]? = some q → ps[i]? = some p → PatAt C H q p
theorem Pats.same {C l : Addr} {H H' : Hp} {qs : List P4} {ps : List Kh455.Pattern} (x : Pats C H l qs ps) (s : Same H H') : Pats C H' l qs ps := ⟨s _ _ x.lst, x.len, fun i q p h1 h2 => (x.at_ i q p h1 h2).same s⟩
def spPats (K : PySem.W.Frag) (C CE : Addr) : Sp := fun vs H Q E => ∃ (a : Addr) (t : List Nat), vs = [.ref a] ∧ SqL K H a (vn t) ∧ t.length ≤ 900 ∧
  (Pm.pats (Kh455.wordsOf t) = none → ∀ (d : Addr) (H' : Hp), Same H H' → H' d = some (.xd (fAns (-21))) → E (.ref CE) (some d) H') ∧
  (∀ ps, Pm.pats (Kh455.wordsOf t) = some ps → ∀ (H' : Hp) (l : Addr) (qs : List P4), Same H H' → Pats C H' l qs ps → Q (.ref l) H')
section
variable {P : Program} {w : World} {K : PySem.W.Frag} {mg : Str → Option Value} {base : Heap} {f : Addr} {fd : FuncData}
theorem scPats : FnScope ["text", "word"] ["text"] (defScope sPats) := ⟨rfl, rfl, rfl, by decide +kernel, rfl, by decide +kernel, by decide +kernel⟩
theorem ok_pats {C CE : Addr} (F : Fun K "patterns_of" "patterns_of" sPats f fd) (DW : Def P w K mg base CX0 4 "words_of" ["text"] (spWords K)) (DP : Def P w K mg base (L2.CX P w) 8 "pattern_of" ["word"] (spPat K C CE)) :
    FnOk P w K mg base (L2.CX P w) 12 f fd ["text"] (spPats K C CE) := by
  obtain ⟨fP, fdP, hmP, hkP, hbP, GP⟩ := DP
  refine F.okX scPats (fun vs H Q E h => ?_) (fun cdv A outer s H vs Q E hr h => ?_)
  · obtain ⟨a, t, rfl, _⟩ := h
    rfl
  · have hr4 : Room 4 _ := hr.mono (by decide)
    have hr8 : Room 8 _ := hr.mono (by decide)
    refine ⟨_, pss_one (ps_ret (pe_lcX (W := fun cls d _ H => E cls d H) (own := [("word", 1)]) (g := gName 1) (tt := tYes) (te := fun E' => tCallS (spPat K C CE) (fun _ => E') (tCons (tVar 1) tNil)) rfl scPats.nd rfl rfl (takes_of rfl rfl rfl rfl)
      (pi_list (pe_d DW hr4 (by exact (pa_cons (pv 0) pa_nil)))) (blkOk_by (N := ["text", "word"]) (sc := defScope sPats) (by decide +kernel)) (fun _ _ _ _ _ => pg_name (i := 1) scPats.nd rfl (Or.inl rfl)) (fun _ _ _ _ _ => pts_nil)
      (fun _ _ _ _ _ _ _ E' hx => pe_callS GP hr8 rfl hmP hkP hbP hx (by exact (pa_cons (pv 1) pa_nil))))), ?_⟩
    obtain ⟨a, t, rfl, hS, hlen, kN, kS⟩ := h
    have short := Pm.words_short t
    refine ⟨_, rfl, a, t, rfl, hS, (by omega), fun H1 p as s1 _ _ L => ⟨p, rfl, ⟨_, SqL.of L.lst⟩, fun D nD => ?_⟩⟩
    generalize Kh455.wordsOf t = ws at L short kN kS
    refine lc_list (K := K) (a := p) (xs := as.map V.ref) (fun i H' => ∃ (qs : List P4) (ps : List Kh455.Pattern), H' D = some (.lst (qs.map fun q : P4 => V.ref q.1)) ∧ Same H1 H' ∧ Pm.pats (ws.take i) = some ps ∧ qs.length = ps.length ∧
        ∀ (j : Nat) (q : P4) (p : Kh455.Pattern), qs[j]? = some q → ps[j]? = some p → PatAt C H' q p ∧ q.off D)
      ⟨[], [], upd_same, (Same.refl H1).new nD, rfl, rfl, fun j q p e => by simp at e⟩ (fun i H' _ ⟨_, _, _, s2, _⟩ => s2.seq (SqL.of L.lst)) ?_ ?_
    · rintro i x H' hi ⟨qs, ps, hD, s2, hps, hlen2, hat⟩
      rw [List.getElem?_map] at hi
      cases ea : as[i]? with
      | none =>
        rw [ea] at hi
        cases hi
      | some ai =>
        rw [ea] at hi
        cases hi
        have hiw : i < ws.length := by
          rw [← L.len]
          exact (List.getElem?_eq_some_iff.mp ea).1
        have hw := List.getElem?_eq_getElem hiw
        have hwd := (L.same s2).at_ i ai _ ea hw
        have hmem : ws[i] ∈ ws := List.getElem_mem hiw
        have takes : Pm.pats (ws.take (i + 1)) = (Pm.patOf ws[i]).map fun p => ps ++ [p] := by
          rw [take_more hw, Pm.pats_snoc, hps]
          rfl
        generalize ws[i] = wd at *
        refine ⟨rfl, ?_⟩
        unfold tYes
        dsimp only
        rw [if_pos rfl]
        refine ⟨_, rfl, ai, wd, rfl, SqL.of hwd, ?_, fun e d H2 s3 hd => ?_, fun q e H2 q4 s3 off pat => ?_⟩
        · have := short.2 wd hmem
          omega
        · exact kN (Pm.pats_fails ws wd hmem e) d H2 ((s1.trans s2).trans s3) hd
        · rw [e] at takes
          have hpsl := Pm.pats_len _ _ hps
          refine ⟨_, s3 _ _ hD, small1000 (by rw [List.length_map, hlen2, hpsl, List.length_take]; omega), qs ++ [q4], ps ++ [q], ?_, (s2.trans s3).own nD, takes, by simp [hlen2], fun j r p h1 h2 => ?_⟩
          · rw [upd_same, List.map_append]
            rfl
          · by_cases hj : j < qs.length
            · rw [List.getElem?_append_left hj] at h1
              rw [List.getElem?_append_left (by rw [← hlen2]; exact hj)] at h2
              obtain ⟨pa, of⟩ := hat j r p h1 h2
              exact ⟨(pa.same s3).beside of, of⟩
            · have hj' : qs.length ≤ j := Nat.le_of_not_lt hj
              rw [List.getElem?_append_right hj'] at h1
              rw [List.getElem?_append_right (by rw [← hlen2]; exact hj'), ← hlen2] at h2
              have z : j - qs.length = 0 := by
                cases q0 : j - qs.length with
                | zero => rfl
                | succ n =>
                  rw [q0] at h1
                  simp at h1
              rw [z] at h1 h2
              simp only [List.getElem?_cons_zero, Option.some.injEq] at h1 h2
              subst h1 h2
              have of := off D (by rw [hD]; exact fun z => nomatch z)
              exact ⟨pat.beside of, of⟩
    · rintro H' ⟨qs, ps, hD, s2, hps, hlen2, hat⟩
      rw [List.length_map, L.len, List.take_length] at hps
      exact kS ps hps H' D qs (s1.trans s2) ⟨hD, hlen2, fun i q p h1 h2 => (hat i q p h1 h2).1⟩
end
end Pl

namespace Pm
theorem cRun_take {l : List Nat} {i b c0 c : Nat} (h : l[i]? = some b) (hr : cRun (l.take i) c0 = some c) : cRun (l.take (i + 1)) c0 = if 128 ≤ b ∧ b < 192 then some (c * 64 + b - 128) else none := by
  have e : l.take (i + 1) = l.take i ++ [b] := by
    rw [List.take_add_one, h]
    rfl
  rw [e, cRun_snoc, hr]
  rfl
theorem cRun_cat : ∀ (u t : List Nat) (c : Nat), cRun (u ++ t) c = (cRun u c).bind (cRun t)
  | [], t, c => rfl
  | b :: u, t, c => by
    show (if 128 ≤ b ∧ b < 192 then cRun (u ++ t) (c * 64 + b - 128) else none) = (if 128 ≤ b ∧ b < 192 then cRun u (c * 64 + b - 128) else none : Option Nat).bind (cRun t)
    split
    · exact cRun_cat u t _
    · rfl
theorem cRun_fails {l : List Nat} {i c0 : Nat} (h : cRun (l.take i) c0 = none) : cRun l c0 = none := by
  rw [← List.take_append_drop i l, cRun_cat, h]
  rfl
theorem cRun_bound : ∀ (l : List Nat) (c c' : Nat), cRun l c = some c' → c' < (c + 1) * 64 ^ l.length
  | [], c, c', h => by
    cases h
    simp
  | b :: l, c, c', h => by
    have h' : (if 128 ≤ b ∧ b < 192 then cRun l (c * 64 + b - 128) else none) = some c' := h
    by_cases hb : 128 ≤ b ∧ b < 192
    · rw [if_pos hb] at h'
      have ih := cRun_bound l _ _ h'
      have : c * 64 + b - 128 + 1 ≤ (c + 1) * 64 := by omega
      rw [List.length_cons, Nat.pow_succ]
      calc c' < (c * 64 + b - 128 + 1) * 64 ^ l.length := ih
        _ ≤ ((c + 1) * 64) * 64 ^ l.length := Nat.mul_le_mul_right _ this
        _ = (c + 1) * (64 ^ l.length * 64) := by rw [Nat.mul_assoc, Nat.mul_comm 64]
    · rw [if_neg hb] at h'
      cases h'
theorem readSeq_len {l : List Nat} {n c : Nat} (h : readSeq l n = some c) : n ≤ l.length := by
  unfold readSeq at h
  split at h
  · cases h
  · omega
end Pm
namespace Pl
open PySem PySem.Spec PyProof.Rows L2
/-- a tuple of the program's top -/
def TupG (K : PySem.W.Frag) (mg : Str → Option Value) (x : Str) (l : List Nat) : Prop := ∃ t, mg x = some (.ref t) ∧ ∀ H : Hp, SqT K H t (vn l)
theorem pe_gt {X : Cx} {x : Str} {t : Addr} {p : Pos} (h : X.mg x = some (.ref t)) (hg : Gl X x := by rfl) (hd : (x == ("__debug__" : Str)) = false := by decide) : PE X (.Name x p) (tC (.ref t)) := pe_glob hg h rfl hd
/-- lo <= v < hi as a test -/
theorem le_lt_test {lo hi c : Nat} {i : Nat} {σ : L2.St} {H : Hp} {Q : Bool → Hp → Prop} (hi_ : σ[i]? = some (some (.int c))) (q : Q (decide (lo ≤ c ∧ c < hi)) H) :
    tTest (tChain (rI0 fun i j => .bl (decide (i ≤ j))) (rI0 fun i j => .bl (decide (i < j))) (tC (.int lo)) (tVar i) (tC (.int hi))) σ H Q := by
  refine ⟨_, hi_, _, _, rfl, rfl, _, rfl, ?_⟩
  by_cases h : lo ≤ c
  · refine if_true_of (decide_eq_true (by omega)) ⟨_, _, rfl, rfl, _, rfl, ?_⟩
    have e : decide ((c : Int) < (hi : Int)) = decide (lo ≤ c ∧ c < hi) := by
      rw [Bool.eq_iff_iff, decide_eq_true_eq, decide_eq_true_eq]
      omega
    rw [e]
    exact q
  · refine if_false_of (decide_eq_false (by omega)) ⟨_, rfl, ?_⟩
    rw [decide_eq_false (by omega)] at q
    exact q
theorem le_le_test {lo hi c : Nat} {i : Nat} {σ : L2.St} {H : Hp} {Q : Bool → Hp → Prop} (hi_ : σ[i]? = some (some (.int c))) (q : Q (decide (lo ≤ c ∧ c ≤ hi)) H) :
    tTest (tChain (rI0 fun i j => .bl (decide (i ≤ j))) (rI0 fun i j => .bl (decide (i ≤ j))) (tC (.int lo)) (tVar i) (tC (.int hi))) σ H Q := by
  refine ⟨_, hi_, _, _, rfl, rfl, _, rfl, ?_⟩
  by_cases h : lo ≤ c
  · refine if_true_of (decide_eq_true (by omega)) ⟨_, _, rfl, rfl, _, rfl, ?_⟩
    have e : decide ((c : Int) ≤ (hi : Int)) = decide (lo ≤ c ∧ c ≤ hi) := by
      rw [Bool.eq_iff_iff, decide_eq_true_eq, decide_eq_true_eq]
      omega
    rw [e]
    exact q
  · refine if_false_of (decide_eq_false (by omega)) ⟨_, rfl, ?_⟩
    rw [decide_eq_false (by omega)] at q
    exact q
def spSize (CU : Addr) : Sp := fun vs H Q E => ∃ c : Nat, vs = [.int c] ∧ (Pm.seqSize c = none → ∀ d, H d = none → E (.ref CU) (some d) (upd H d (.xd (fAns (-24))))) ∧ (∀ n : Nat, Pm.seqSize c = some n → Q (.int n) H)
def spSeq (K : PySem.W.Frag) (CU : Addr) : Sp := fun vs H Q E => ∃ (a : Addr) (l : List Nat) (n : Nat), vs = [.ref a, .int n] ∧ SqL K H a (vn l) ∧ l.length ≤ 4 ∧ (1 ≤ n ∧ n ≤ 4) ∧ (∀ b, l[0]? = some b → Pm.leads n ≤ b ∧ b < 256) ∧
  (Pm.readSeq l n = none → ∀ (d : Addr) (H' : Hp), Same H H' → H' d = some (.xd (fAns (-24))) → E (.ref CU) (some d) H') ∧ (∀ c : Nat, Pm.readSeq l n = some c → ∀ H', Same H H' → Q (.int c) H')
section
variable {P : Program} {w : World} {K : PySem.W.Frag} {mg : Str → Option Value} {base : Heap} {f : Addr} {fd : FuncData}
theorem scSize : FnScope ["lead"] ["lead"] (defScope sSize) := ⟨rfl, rfl, rfl, by decide +kernel, rfl, by decide +kernel, by decide +kernel⟩
theorem ok_size {CU : Addr} (F : Fun K "sequence_size" "sequence_size" sSize f fd) (TE : Err P w K mg base "NotUtf8" CU (-24)) : FnOk P w K mg base (L2.CX P w) 6 f fd ["lead"] (spSize CU) := by
  refine F.okX scSize (fun vs H Q E h => ?_) (fun cdv A outer s H vs Q E hr h => ?_)
  · obtain ⟨c, rfl, _⟩ := h
    rfl
  · have hr4 : Room 4 _ := hr.mono (by decide)
    refine ⟨_, pss_cons (ps_if (pt_cmpR op_lt (pv 0) pe_int (nomark _)) (pss_one (ps_ret pe_int)) pss_nil)
      (pss_cons (ps_if (pt_chain op_le op_lt pe_int (pv 0) pe_int) (pss_one (ps_ret pe_int)) pss_nil)
      (pss_cons (ps_if (pt_chain op_le op_lt pe_int (pv 0) pe_int) (pss_one (ps_ret pe_int)) pss_nil)
      (pss_cons (ps_if (pt_chain op_le op_lt pe_int (pv 0) pe_int) (pss_one (ps_ret pe_int)) pss_nil)
      (pss_one (ps_refuse rfl TE hr4 (takes_of rfl rfl rfl rfl)))))), ?_⟩
    obtain ⟨c, rfl, kN, kS⟩ := h
    refine ⟨_, rfl, _, _, rfl, rfl, _, rfl, ?_⟩
    by_cases h1 : c < 128
    · exact if_true_of (decide_eq_true (by omega)) (kS 1 (Pm.sz1 h1))
    · refine if_false_of (decide_eq_false (by omega)) ?_
      refine le_lt_test (lo := 192) (hi := 224) rfl ?_
      by_cases h2 : 192 ≤ c ∧ c < 224
      · exact if_true_of (decide_eq_true h2) (kS 2 (Pm.sz2 h2))
      · refine if_false_of (decide_eq_false h2) ?_
        refine le_lt_test (lo := 224) (hi := 240) rfl ?_
        by_cases h3 : 224 ≤ c ∧ c < 240
        · exact if_true_of (decide_eq_true h3) (kS 3 (Pm.sz3 h3))
        · refine if_false_of (decide_eq_false h3) ?_
          refine le_lt_test (lo := 240) (hi := 248) rfl ?_
          by_cases h4 : 240 ≤ c ∧ c < 248
          · exact if_true_of (decide_eq_true h4) (kS 4 (Pm.sz4 h4))
          · exact if_false_of (decide_eq_false h4) (kN (Pm.sz0 (by omega)))
theorem scSeq : FnScope ["octets", "size", "code", "octet"] ["octets", "size"] (defScope sSeq) := ⟨rfl, rfl, rfl, by decide +kernel, rfl, by decide +kernel, by decide +kernel⟩
theorem cut_tail (l : List Nat) : cutV (vn l) (some ((1 : Nat) : Int)) none = vn (l.drop 1) := by
  unfold cutV
  rw [HT.sIx_nat, HT.sIx_none, vn_len]
  unfold vn
  cases l with
  | nil => rfl
  | cons a r =>
    have e : min 1 (a :: r).length = 1 := by
      rw [List.length_cons]
      omega
    rw [e, List.map_drop]
    apply List.take_of_length_le
    rw [List.length_drop, List.length_map]
    exact Nat.le_refl _
theorem tup5 {l : List Nat} {n v : Nat} (h : l[n]? = some v) : atI (vn l) (n : Int) = some (.int v) := atI_nat (vn_get h)
theorem leads_at {n : Nat} (h : n ≤ 4) : ([0, 0, 192, 224, 240] : List Nat)[n]? = some (Pm.leads n) := by
  match n, h with
  | 0, _ => rfl
  | 1, _ => rfl
  | 2, _ => rfl
  | 3, _ => rfl
  | 4, _ => rfl
theorem smallest_at {n : Nat} (h : n ≤ 4) : ([0, 0, 128, 2048, 65536] : List Nat)[n]? = some (Pm.smallest n) := by
  match n, h with
  | 0, _ => rfl
  | 1, _ => rfl
  | 2, _ => rfl
  | 3, _ => rfl
  | 4, _ => rfl
theorem ok_seq {CU : Addr} (F : Fun K "read_sequence" "read_sequence" sSeq f fd) (TE : Err P w K mg base "NotUtf8" CU (-24)) (ml : mg "len" = none) (DC : Def P w K mg base CX0 1 "is_character" ["code"] (spFlag Kh450.isScalar)) (TL : TupG K mg "LEADS" [0, 0, 192, 224, 240]) (TS : TupG K mg "SMALLEST" [0, 0, 128, 2048, 65536]) :
    FnOk P w K mg base (L2.CX P w) 6 f fd ["octets", "size"] (spSeq K CU) := by
  obtain ⟨tl, hl, sl⟩ := TL
  obtain ⟨tsm, hs, ss⟩ := TS
  refine F.okX scSeq (fun vs H Q E h => ?_) (fun cdv A outer s H vs Q E hr h => ?_)
  · obtain ⟨a, l, n, rfl, _⟩ := h
    rfl
  · have hr4 : Room 4 _ := hr.mono (by decide)
    have hr1 : Room 1 _ := hr.mono (by decide)
    refine ⟨_, pss_cons (ps_if (pt_cmpR op_lt (pe_callB call_len_seq (by rfl) ml PySem.boot_len (pa_cons (pv 0) pa_nil)) (pv 1) (nomark _)) (pss_one (ps_refuse rfl TE hr4 (takes_of rfl rfl rfl rfl))) pss_nil)
      (pss_cons (ps_set (i := 2) scSeq.nd rfl (Or.inl rfl) (pe_op op_sub (pe_ix ix_list (pv 0) pe_int (fun _ _ => rfl)) (pe_ix ix_tup (pe_gt hl) (pv 1) (fun _ _ => rfl))))
      (pss_cons (ps_for (passes_of rfl) rfl (pi_list (pe_slice sl_list (pv 0) (po_some pe_int) po_none)) (pg_name (i := 3) scSeq.nd rfl (Or.inl rfl))
        (pss_cons (ps_if (pt_not (pt_chain op_le op_lt pe_int (pv 3) pe_int)) (pss_one (ps_refuse rfl TE hr4 (takes_of rfl rfl rfl rfl))) pss_nil)
        (pss_one (ps_set (i := 2) scSeq.nd rfl (Or.inl rfl) (pe_op op_sub (pe_op op_add (pe_op op_mul (pv 2) pe_int) (pv 3)) pe_int)))))
      (pss_cons (ps_if (PW.pt (pw_or (pt_cmpR op_lt (pv 2) (pe_ix ix_tup (pe_gt hs) (pv 1) (fun _ _ => rfl)) (nomark _)) (pw_or1 (pt_not (pt_val (pe_d DC hr1 (by exact (pa_cons (pv 2) pa_nil))))))))
        (pss_one (ps_refuse rfl TE hr4 (takes_of rfl rfl rfl rfl))) pss_nil)
      (pss_one (ps_ret (pv 2)))))), ?_⟩
    obtain ⟨a, l, n, rfl, hS, hlen, ⟨hn1, hn4⟩, hb, kN, kS⟩ := h
    have refuse : Pm.readSeq l n = none → ∀ H1, Same H H1 → ∀ d, H1 d = none → E (.ref CU) (some d) (upd H1 d (.xd (fAns (-24)))) := fun e H1 s1 d nd => kN e d _ (s1.new nd) upd_same
    refine ⟨_, rfl, a, _, rfl, .inl hS, _, rfl, _, _, rfl, rfl, _, rfl, ?_⟩
    rw [vn_len]
    by_cases hshort : l.length < n
    · refine if_true_of (decide_eq_true (by omega)) (refuse ?_ H (Same.refl H))
      unfold Pm.readSeq
      rw [if_pos hshort]
    · refine if_false_of (decide_eq_false (by omega)) ?_
      cases l with
      | nil =>
        simp at hshort
        omega
      | cons b r =>
        obtain ⟨hlead, hb256⟩ := hb b rfl
        refine ⟨_, rfl, a, _, 0, _, rfl, rfl, hS, (atI_nat (j := 0) rfl), _, rfl, tl, _, _, _, rfl, rfl, sl H, tup5 (leads_at hn4), _, _, rfl, rfl, ?_⟩
        refine ⟨_, rfl, _, rfl, a, _, rfl, hS, fun p np => ?_⟩
        have s1 : Same H (upd H p (.lst (cutV (vn (b :: r)) (some 1) none))) := (Same.refl H).new np
        have e1 : cutV (vn (b :: r)) (some (1 : Int)) none = vn r := cut_tail (b :: r)
        rw [e1] at s1 ⊢
        have hc0 : ((b : Int) - (Pm.leads n : Int)) = ((b - Pm.leads n : Nat) : Int) := by omega
        have read_ : Pm.readSeq (b :: r) n = (Pm.cRun r (b - Pm.leads n)).bind fun c => if c < Pm.smallest n ∨ (55296 ≤ c ∧ c ≤ 57343) ∨ 1114111 < c then none else some c := by
          unfold Pm.readSeq
          rw [if_neg hshort]
        have sq : SqL K (upd H p (.lst (vn r))) p (vn r) := SqL.of upd_same
        refine ⟨p, rfl, ⟨_, sq⟩, for_list (K := K) (a := p) (xs := vn r)
          (fun i σ H' => ∃ (c : Nat) (x : Option V), σ = [some (.ref a), some (.int n), some (.int c), x] ∧ H' = upd H p (.lst (vn r)) ∧ Pm.cRun (r.take i) (b - Pm.leads n) = some c)
          ⟨b - Pm.leads n, none, ?_, rfl, rfl⟩ (fun i σ H' _ ⟨_, _, _, e, _⟩ => by rw [e]; exact sq) ?_ ?_⟩
        · show [some (V.ref a), some (.int n), some (.int ((b : Int) - (Pm.leads n : Int))), none] = _
          rw [hc0]
        · rintro i x σ H' hi ⟨c, x3, rfl, rfl, hrun⟩
          obtain ⟨o, ho, rfl⟩ := vn_of hi
          have more := Pm.cRun_take ho hrun
          refine le_lt_test (lo := 128) (hi := 192) rfl ?_
          by_cases hcont : 128 ≤ o ∧ o < 192
          · rw [if_pos hcont] at more
            rw [decide_eq_true hcont]
            have bound := Pm.cRun_bound _ _ _ hrun
            have len3 : (r.take i).length ≤ 3 := by
              rw [List.length_take]
              simp only [List.length_cons] at hlen
              omega
            have pw3 : 64 ^ (r.take i).length ≤ 64 ^ 3 := Nat.pow_le_pow_right (by decide) len3
            have small : c < 256 * 64 ^ 3 := Nat.lt_of_lt_of_le bound (Nat.mul_le_mul (by omega) pw3)
            refine iteF ⟨_, rfl, _, _, rfl, rfl, .inl ⟨?_, ?_⟩, _, rfl, _, _, rfl, rfl, _, _, rfl, rfl, ?_⟩
            · have : (0 : Int) ≤ (c : Int) := Int.natCast_nonneg c
              omega
            · have : c < 67108864 := small
              omega
            · refine ⟨c * 64 + o - 128, some (.int o), ?_, rfl, more⟩
              have e : ((c : Int) * 64 + (o : Int) - 128) = ((c * 64 + o - 128 : Nat) : Int) := by omega
              show [some (V.ref a), some (.int n), some (.int ((c : Int) * 64 + (o : Int) - 128)), some (.int o)] = _
              rw [e]
          · rw [if_neg hcont] at more
            rw [decide_eq_false hcont]
            refine iteT (refuse ?_ _ s1)
            rw [read_, Pm.cRun_fails more]
            rfl
        · rintro σ H' ⟨c, x3, rfl, rfl, hrun⟩
          rw [vn_len, List.take_length] at hrun
          rw [hrun] at read_
          have read2 : Pm.readSeq (b :: r) n = if c < Pm.smallest n ∨ (55296 ≤ c ∧ c ≤ 57343) ∨ 1114111 < c then none else some c := read_
          refine ⟨_, rfl, _, rfl, tsm, _, _, _, rfl, rfl, ss _, tup5 (smallest_at hn4), _, _, rfl, rfl, _, rfl, ?_⟩
          by_cases t1 : c < Pm.smallest n
          · refine if_true_of (decide_eq_true (by omega)) (iteT (refuse ?_ _ s1))
            rw [read2, if_pos (.inl t1)]
          · refine if_false_of (decide_eq_false (by omega)) ⟨_, rfl, c, rfl, fun H2 s2 => ⟨_, rfl, ?_⟩⟩
            cases hsc : Kh450.isScalar c with
            | false =>
              refine iteT (refuse ?_ _ (s1.trans s2))
              have z : (55296 ≤ c ∧ c ≤ 57343) ∨ 1114111 < c := by
                unfold Kh450.isScalar at hsc
                simp at hsc
                omega
              rw [read2, if_pos (.inr z)]
            | true =>
              refine iteF ⟨_, rfl, kS c ?_ _ (s1.trans s2)⟩
              have z : ¬((55296 ≤ c ∧ c ≤ 57343) ∨ 1114111 < c) := by
                unfold Kh450.isScalar at hsc
                simp at hsc
                omega
              rw [read2, if_neg (fun q => q.elim t1 z)]
end
end Pl

namespace Pl
open PySem PySem.Spec PyProof.Rows L2
def spRead (K : PySem.W.Frag) (CU : Addr) : Sp := fun vs H Q E => ∃ (a : Addr) (bs : List Nat), vs = [.ref a] ∧ SqL K H a (vn bs) ∧ bs.length ≤ 600 ∧ (∀ b ∈ bs, b < 256) ∧
  (Kh450.decodeAll bs = none → ∀ (d : Addr) (H' : Hp), Same H H' → H' d = some (.xd (fAns (-24))) → E (.ref CU) (some d) H') ∧
  (∀ t, Kh450.decodeAll bs = some t → ∀ (H' : Hp) (p : Addr), Same H H' → H' p = some (.lst (vn t)) → Q (.ref p) H')
theorem cut_part (l : List Nat) (i n : Nat) (h : i ≤ l.length) : cutV (vn l) (some (i : Int)) (some ((i + n : Nat) : Int)) = vn ((l.drop i).take n) := by
  unfold cutV
  rw [HT.sIx_nat, HT.sIx_nat, vn_len]
  unfold vn
  rw [Nat.min_eq_left h, List.map_take, List.map_drop]
  apply List.ext_getElem?
  intro k
  rw [List.getElem?_take, List.getElem?_take, List.getElem?_drop]
  by_cases h1 : k < n
  · rw [if_pos h1]
    by_cases h2 : k < min (i + n) l.length - i
    · rw [if_pos h2]
    · rw [if_neg h2, List.getElem?_eq_none]
      rw [List.length_map]
      omega
  · rw [if_neg h1, if_neg (by omega)]
section
variable {P : Program} {w : World} {K : PySem.W.Frag} {mg : Str → Option Value} {base : Heap} {f : Addr} {fd : FuncData}
theorem scRead : FnScope ["octets", "text", "at", "size"] ["octets"] (defScope sRead) := ⟨rfl, rfl, rfl, by decide +kernel, rfl, by decide +kernel, by decide +kernel⟩
/-- how far the loop is -/
def placeOf (σ : L2.St) : Nat := match σ[2]? with
  | some (some (V.int i)) => i.toNat
  | _ => 0
theorem ok_read {CU : Addr} (F : Fun K "read_utf8" "read_utf8" sRead f fd) (ml : mg "len" = none) (DZ : Def P w K mg base (L2.CX P w) 6 "sequence_size" ["lead"] (spSize CU)) (DQ : Def P w K mg base (L2.CX P w) 6 "read_sequence" ["octets", "size"] (spSeq K CU)) :
    FnOk P w K mg base (L2.CX P w) 10 f fd ["octets"] (spRead K CU) := by
  refine F.okX scRead (fun vs H Q E h => ?_) (fun cdv A outer s H vs Q E hr h => ?_)
  · obtain ⟨a, l, rfl, _⟩ := h
    rfl
  · have hr6 : Room 6 _ := hr.mono (by decide)
    refine ⟨_, pss_cons (ps_set (i := 1) scRead.nd rfl (Or.inl rfl) (pe_lst pa_nil))
      (pss_cons (ps_set (i := 2) scRead.nd rfl (Or.inl rfl) pe_int)
      (pss_cons (ps_while (passes_of rfl) (pt_cmpR op_lt (pv 2) (pe_callB call_len_seq (by rfl) ml PySem.boot_len (pa_cons (pv 0) pa_nil)) (nomark _))
        (pss_cons (ps_set (i := 3) scRead.nd rfl (Or.inl rfl) (pe_dX DZ hr6 (takes_of rfl rfl rfl rfl) (by exact (pa_cons (pe_ix ix_list (pv 0) (pv 2) (fun _ _ => rfl)) pa_nil))))
        (pss_cons (ps_expr (pe_bm PySem.F.plainAttrs_list PySem.F.slot_list_append PySem.F.type_list_append mt_append (pv 1)
          (pa_cons (pe_dX DQ hr6 (takes_of rfl rfl rfl rfl) (by exact (pa_cons (pe_slice sl_list (pv 0) (po_some (pv 2)) (po_some (pe_op op_add (pv 2) (pv 3)))) (pa_cons (pv 3) pa_nil)))) pa_nil)))
        (pss_one (ps_aug (i := 2) scRead.nd rfl (Or.inl rfl) (pv 3) ip_add)))))
      (pss_one (ps_ret (pv 1))))), ?_⟩
    obtain ⟨a, bs, rfl, hS, hlen, hby, kN, kS⟩ := h
    refine ⟨Nat.zero_le _, fun pt npt => ?_⟩
    have s1 : Same H (upd H pt (.lst [])) := (Same.refl H).new npt
    have refuse : Kh450.decodeAll bs = none → ∀ H1, Same H H1 → ∀ d, H1 d = none → E (.ref CU) (some d) (upd H1 d (.xd (fAns (-24)))) := fun e H1 s1 d nd => kN e d _ (s1.new nd) upd_same
    refine while_by (fun σ H' => ∃ (n : Nat) (done : List Nat) (x : Option V), σ = [some (.ref a), some (.ref pt), some (.int n), x] ∧ Same H H' ∧ H' pt = some (.lst (vn done)) ∧ n ≤ bs.length ∧ done.length ≤ n ∧
        Kh450.decodeAll bs = (Kh450.decodeAll (bs.drop n)).map fun t => done ++ t)
      (fun σ H' => bs.length - placeOf σ) ⟨0, [], none, rfl, s1, upd_same, Nat.zero_le _, Nat.le_refl _, ?_⟩ ?_ ?_
    · rw [List.drop_zero]
      cases Kh450.decodeAll bs <;> rfl
    · rintro σ H' ⟨n, done, x, rfl, s2, hpt, hn, hdl, hdec⟩
      refine ⟨_, rfl, _, rfl, a, _, rfl, .inl (s2.seq hS), _, _, rfl, rfl, _, rfl, ?_⟩
      rw [vn_len]
      by_cases hlt : n < bs.length
      · refine if_true_of (decide_eq_true (by omega)) ?_
        have hget := List.getElem?_eq_getElem hlt
        have hmem : bs[n] ∈ bs := List.getElem_mem hlt
        have hdrop : bs.drop n = bs[n] :: bs.drop (n + 1) := List.drop_eq_getElem_cons hlt
        generalize bs[n] = b at hget hmem hdrop
        rw [hdrop, Pm.all_step] at hdec
        have hb := hby b hmem
        refine ⟨_, rfl, _, rfl, a, _, n, _, rfl, rfl, s2.seq hS, atI_nat (vn_get hget), ?_⟩
        refine ⟨b, rfl, fun e d nd => ?_, fun m e => ?_⟩
        · rw [e] at hdec
          exact refuse hdec H' s2 d nd
        · rw [e] at hdec
          obtain ⟨hm, hlead⟩ := Pm.seqSize_cases e
          have hm4 : 1 ≤ m ∧ m ≤ 4 := by omega
          rw [← hdrop] at hdec
          have hcut : cutV (vn bs) (some (n : Int)) (some ((n : Int) + (m : Int))) = vn ((bs.drop n).take m) := by
            have q := cut_part bs n m hn
            rw [← q]
            congr 2
          refine ⟨_, rfl, .inl ⟨rfl, _, SqL.of hpt⟩, _, rfl, _, rfl, n, rfl, _, rfl, _, rfl, _, _, rfl, rfl, _, rfl, a, _, rfl, s2.seq hS, fun p np => ?_⟩
          have hp : upd H' p (.lst (cutV (vn bs) (some (n : Int)) (some ((n : Int) + (m : Int))))) p = some (.lst (vn ((bs.drop n).take m))) := by
            rw [upd_same, hcut]
          have s3 : Same H' (upd H' p (.lst (cutV (vn bs) (some (n : Int)) (some ((n : Int) + (m : Int)))))) := (Same.refl H').new np
          generalize upd H' p (.lst (cutV (vn bs) (some (n : Int)) (some ((n : Int) + (m : Int))))) = H3 at hp s3
          have hlead0 : ∀ b0, ((bs.drop n).take m)[0]? = some b0 → Pm.leads m ≤ b0 ∧ b0 < 256 := fun b0 e0 => by
            rw [List.getElem?_take, if_pos (by omega), List.getElem?_drop, Nat.add_zero, hget] at e0
            cases e0
            exact ⟨hlead, hb⟩
          refine ⟨_, rfl, p, (bs.drop n).take m, m, rfl, SqL.of hp, (by rw [List.length_take]; omega), hm4, hlead0, fun e2 d H4 s4 hd => ?_, fun c e2 H4 s4 => ?_⟩
          · simp only [e2] at hdec
            exact kN hdec d H4 ((s2.trans s3).trans s4) hd
          · simp only [e2] at hdec
            have hpt4 := s4 _ _ (s3 _ _ hpt)
            have hfit := Pm.readSeq_len e2
            rw [List.length_take, List.length_drop] at hfit
            refine ⟨pt, _, _, rfl, rfl, hpt4, small1000 (by rw [vn_len]; omega), ?_⟩
            refine ⟨_, rfl, _, rfl, _, _, rfl, rfl, ?_⟩
            refine ⟨⟨n + m, done ++ [c], some (.int m), rfl, ((s2.trans s3).trans s4).own npt, ?_, (by omega), (by simp; omega), ?_⟩, ?_⟩
            · rw [upd_same, vn_snoc]
            · rw [hdec, List.drop_drop]
              cases Kh450.decodeAll (bs.drop (n + m)) with
              | none => rfl
              | some t =>
                show some (done ++ c :: t) = some (done ++ [c] ++ t)
                rw [List.append_assoc]
                rfl
            · show bs.length - ((n : Int) + (m : Int)).toNat < bs.length - (n : Int).toNat
              omega
      · refine if_false_of (decide_eq_false (by omega)) ?_
        have en : bs.drop n = [] := List.drop_eq_nil_iff.mpr (by omega)
        rw [en, Pm.all_nil] at hdec
        have hdec2 : Kh450.decodeAll bs = some done := by
          rw [hdec]
          show some (done ++ []) = some done
          rw [List.append_nil]
        exact ⟨_, rfl, kS done hdec2 H' pt s2 hpt⟩
    · rintro σ H' Q1 Q2 hq ⟨v, e, v2, e2, p, ys, ep, sq, i, j, ei, ej, k, ek, q⟩
      exact ⟨v, e, v2, e2, p, ys, ep, sq, i, j, ei, ej, k, ek, hq _ _ q⟩
end
end Pl

namespace Pm
open Kh455 (raiseAt Pattern)
/-- one pattern, at every place -/
def layAll (d : List Nat) (p : Pattern) (L : List Nat) : List Nat := (List.range (d.length + 1 - p.letters.length)).foldl (fun L i => lay d p i L) L
theorem levelsPy_eq (ps : List Pattern) (d : List Nat) : levelsPy ps d = ps.foldl (fun L p => layAll d p L) (List.replicate (d.length + 1) 0) := rfl
theorem fold_lay_len (d : List Nat) (p : Pattern) : ∀ (l : List Nat) (L : List Nat), (l.foldl (fun L i => lay d p i L) L).length = L.length
  | [], L => rfl
  | i :: l, L => by
    rw [List.foldl_cons, fold_lay_len d p l, lay_len]
theorem fold_all_len (d : List Nat) : ∀ (ps : List Pattern) (L : List Nat), (ps.foldl (fun L p => layAll d p L) L).length = L.length
  | [], L => rfl
  | p :: ps, L => by
    rw [List.foldl_cons, fold_all_len d ps]
    exact fold_lay_len d p _ L
theorem read_letters : ∀ (w : List Nat) (p : Pattern), Kh455.readPattern w = some p → p.letters.length ≤ w.length := fun w p h => by
  have e := pRun_all w
  rw [h] at e
  cases q : pRun w ([], [0], false) with
  | none =>
    rw [q] at e
    cases e
  | some s =>
    rw [q] at e
    have l := pRun_len w _ s q
    simp only [Option.map_some, Option.some.injEq, Prod.mk.injEq] at e
    rw [← e.1]
    simpa using l.1
theorem pats_mem : ∀ (ws : List (List Nat)) (ps : List Pattern), pats ws = some ps → ∀ p ∈ ps, ∃ w ∈ ws, patOf w = some p
  | [], ps, h, p, hp => by
    cases h
    cases hp
  | w :: r, ps, h, p, hp => by
    have h' : (match patOf w, pats r with | some p, some l => some (p :: l) | _, _ => none) = some ps := h
    cases e : patOf w with
    | none =>
      rw [e] at h'
      cases h'
    | some q =>
      cases e2 : pats r with
      | none =>
        rw [e, e2] at h'
        cases h'
      | some l =>
        rw [e, e2] at h'
        cases h'
        rcases List.mem_cons.mp hp with z | z
        · exact ⟨w, List.mem_cons_self, by rw [e, z]⟩
        · obtain ⟨v, hv, ev⟩ := pats_mem r l e2 p z
          exact ⟨v, List.mem_cons_of_mem _ hv, ev⟩
/-- what is known of the patterns of a text -/
structure Good (n : Nat) (p : Pattern) : Prop where
  some_ : p.letters ≠ []
  lv : p.levels.length = p.letters.length + 1
  short : p.letters.length ≤ n
theorem pats_good {t : List Nat} {ps : List Pattern} (h : pats (Kh455.wordsOf t) = some ps) : ∀ p ∈ ps, Good t.length p := fun p hp => by
  obtain ⟨h1, h2⟩ := pats_letters _ _ h p hp
  obtain ⟨w, hw, e⟩ := pats_mem _ _ h p hp
  refine ⟨h1, h2, ?_⟩
  have hl := (words_short t).2 w hw
  unfold patOf at e
  cases e3 : Kh455.readPattern w with
  | none =>
    rw [e3] at e
    cases e
  | some p' =>
    rw [e3] at e
    simp only at e
    by_cases h4 : p'.letters.isEmpty = true
    · rw [if_pos h4] at e
      cases e
    · rw [if_neg h4] at e
      cases e
      exact Nat.le_trans (read_letters w p e3) hl
end Pm
namespace Pl
open PySem PySem.Spec PyProof.Rows L2
/-! ### == of lists of numbers -/
theorem dp_all (K : PySem.W.Frag) (H : Hp) : ∀ l : List Nat, DpAll K H (vn l) (l.map fun n : Nat => PyData.int n)
  | [] => .nil
  | n :: l => .cons (.int _) (dp_all K H l)
theorem dp_list {K : PySem.W.Frag} {H : Hp} {a : Addr} {l : List Nat} (h : SqL K H a (vn l)) : Dp K H (.ref a) (.list (l.map fun n : Nat => PyData.int n)) := .lst h (dp_all K H l)
theorem eqv_ints : ∀ l m : List Nat, PyData.eqvAll (l.map fun n : Nat => PyData.int n) (m.map fun n : Nat => PyData.int n) = decide (l = m)
  | [], [] => rfl
  | [], _ :: _ => by simp [PyData.eqvAll]
  | _ :: _, [] => by simp [PyData.eqvAll]
  | a :: l, b :: m => by
    show (((a : Int) == (b : Int)) && PyData.eqvAll _ _) = _
    rw [eqv_ints l m, Bool.eq_iff_iff]
    simp only [Bool.and_eq_true, beq_iff_eq, decide_eq_true_eq, List.cons.injEq]
    constructor
    · rintro ⟨h1, h2⟩
      exact ⟨by omega, h2⟩
    · rintro ⟨h1, h2⟩
      exact ⟨by omega, h2⟩
theorem eqv_list (l m : List Nat) : PyData.eqv (.list (l.map fun n : Nat => PyData.int n)) (.list (m.map fun n : Nat => PyData.int n)) = decide (l = m) := eqv_ints l m
theorem lay_ints : ∀ l : List Nat, PyData.canLayAll0 (l.map fun n : Nat => PyData.int n) = true ∧ PyData.depthAll (l.map fun n : Nat => PyData.int n) ≤ 1
  | [] => ⟨rfl, by show PyData.depthAll [] ≤ 1; unfold PyData.depthAll; exact Nat.zero_le _⟩
  | a :: l => by
    obtain ⟨h1, h2⟩ := lay_ints l
    constructor
    · show (PyData.canLay0 (.int a) && PyData.canLayAll0 _) = true
      rw [h1]
      rfl
    · show PyData.depthAll (PyData.int a :: _) ≤ 1
      unfold PyData.depthAll
      have e : PyData.depth (.int a) = 0 := by
        unfold PyData.depth
        rfl
      rw [e]
      omega
theorem shaped_list (l : List Nat) : SeqAt.shaped (.list (l.map fun n : Nat => PyData.int n)) = true := by
  obtain ⟨h1, h2⟩ := lay_ints l
  have e : (PyData.list (l.map fun n : Nat => PyData.int n)).depth = PyData.depthAll (l.map fun n : Nat => PyData.int n) + 1 := by
    conv => lhs; unfold PyData.depth
  show (PyData.canLayAll0 _ && decide ((PyData.list _).depth ≤ 64)) = true
  rw [h1, e, decide_eq_true (by omega)]
  rfl
end Pl

namespace Pl
open PySem PySem.Spec PyProof.Rows L2
def spLev (K : PySem.W.Frag) (C : Addr) : Sp := fun vs H Q _ => ∃ (l d : Addr) (qs : List P4) (ps : List Kh455.Pattern) (dt : List Nat), vs = [.ref l, .ref d] ∧ Pats C H l qs ps ∧ (∀ p ∈ ps, Pm.Good 900 p) ∧ SqL K H d (vn dt) ∧ dt.length ≤ 900 ∧
  ∀ (H' : Hp) (p : Addr), Same H H' → H' p = some (.lst (vn (Pm.levelsPy ps dt))) → Q (.ref p) H'
structure LevAt (H0 H : Hp) (pv : Addr) (L : List Nat) : Prop where
  same : Same H0 H
  v0 : H0 pv = none
  lv : H pv = some (.lst (vn L))
theorem LevAt.later {H0 H H' : Hp} {pv : Addr} {L : List Nat} (x : LevAt H0 H pv L) (s : Same H H') : LevAt H0 H' pv L := ⟨x.same.trans s, x.v0, s _ _ x.lv⟩
theorem LevAt.put {H0 H : Hp} {pv : Addr} {L M : List Nat} (x : LevAt H0 H pv L) : LevAt H0 (upd H pv (.lst (vn M))) pv M := ⟨x.same.own x.v0, x.v0, upd_same⟩
theorem ixN_at {n j : Nat} (h : j < n) : ixN n (j : Int) = some j := by
  unfold ixN
  rw [if_pos (by omega), if_pos (by omega), Int.toNat_natCast]
theorem vn_zeros (n : Nat) : (List.replicate n [V.int 0]).flatten = vn (List.replicate n 0) := by
  induction n with
  | zero => rfl
  | succ n ih =>
    rw [List.replicate_succ, List.flatten_cons, ih, List.replicate_succ]
    rfl
theorem fPat_lt (la va : Addr) : (fPat la va).lookup ("letters" : Str) = some (.ref la) := by
  have e : (("letters" : Str) == ("letters" : Str)) = true := beq_self_eq_true _
  simp only [fPat, List.lookup, e]
theorem fPat_lv (la va : Addr) : (fPat la va).lookup ("levels" : Str) = some (.ref va) := by
  have e : (("levels" : Str) == ("letters" : Str)) = false := by decide +kernel
  have e2 : (("levels" : Str) == ("levels" : Str)) = true := beq_self_eq_true _
  simp only [fPat, List.lookup, e, e2]
section
variable {P : Program} {w : World} {K : PySem.W.Frag} {mg : Str → Option Value} {base : Heap} {f : Addr} {fd : FuncData}
theorem scLev : FnScope ["patterns", "dotted", "levels", "pattern", "size", "start", "k"] ["patterns", "dotted"] (defScope sLev) := ⟨rfl, rfl, rfl, by decide +kernel, rfl, by decide +kernel, by decide +kernel⟩
theorem zero_add_cast (i : Nat) : (0 : Int) + (i : Int) = (i : Int) := Int.zero_add _
theorem max_cast (x y : Nat) : (if (y : Int) > (x : Int) then (y : Int) else (x : Int)) = ((max x y : Nat) : Int) := by
  by_cases h : (y : Int) > (x : Int)
  · rw [if_pos h]
    omega
  · rw [if_neg h]
    omega
theorem ok_lev {C : Addr} (F : Fun K "levels_in" "levels_in" sLev f fd) (T : TPat K mg C) (ml : mg "len" = none) (mr : mg "range" = none) (mm : mg "max" = none) : FnOk P w K mg base CX0 2 f fd ["patterns", "dotted"] (spLev K C) := by
  refine F.ok scLev (fun vs H Q E h => ?_) (fun cdv A outer s H vs Q E hr h => ?_)
  · obtain ⟨l, d, qs, ps, dt, rfl, _⟩ := h
    rfl
  · refine ⟨_, pss_cons (ps_set (i := 2) scLev.nd rfl (Or.inl rfl) (pe_op op_rep (pe_lst (pa_cons pe_int pa_nil)) (pe_op op_add (pe_callB call_len_seq (by rfl) ml PySem.boot_len (pa_cons (pv 1) pa_nil)) pe_int)))
      (pss_cons (ps_for PassesOwn.never rfl (pi_list (pv 0)) (pg_name (i := 3) scLev.nd rfl (Or.inl rfl))
        (pss_cons (ps_set (i := 4) scLev.nd rfl (Or.inl rfl) (pe_callB call_len_seq (by rfl) ml PySem.boot_len (pa_cons (pe_fld (pv 3) rfl) pa_nil)))
        (pss_one (ps_for PassesOwn.never rfl (pi_range1 rfl mr (pa_cons (pe_op op_add (pe_op op_sub (pe_callB call_len_seq (by rfl) ml PySem.boot_len (pa_cons (pv 1) pa_nil)) (pv 4)) pe_int) pa_nil)) (pg_name (i := 5) scLev.nd rfl (Or.inl rfl))
          (pss_one (ps_if (pt_cmpR (op_eqD hr.units) (pe_slice sl_list (pv 1) (po_some (pv 5)) (po_some (pe_op op_add (pv 5) (pv 4)))) (pe_fld (pv 3) rfl) (nomark _))
            (pss_one (ps_for PassesOwn.never rfl (pi_range1 rfl mr (pa_cons (pe_op op_add (pv 4) pe_int) pa_nil)) (pg_name (i := 6) scLev.nd rfl (Or.inl rfl))
              (pss_one (ps_asg (pe_callB (call_max2 rfl) (by rfl) mm (by decide +kernel) (pa_cons (pe_ix ix_list (pv 2) (pe_op op_add (pv 5) (pv 6)) (fun _ _ => rfl)) (pa_cons (pe_ix ix_list (pe_fld (pv 3) rfl) (pv 6) (fun _ _ => rfl)) pa_nil)))
                (pg_sub (pv 2) (pe_op op_add (pv 5) (pv 6)) set_list)))))
            pss_nil))))))
      (pss_one (ps_ret (pv 2)))), ?_⟩
    obtain ⟨l, d, qs, ps, dt, rfl, hP, hgood, hd, hdl, k⟩ := h
    have small : 1000000 ≤ sizeLine := by decide
    refine ⟨(by show 1 ≤ sizeLine; decide), fun p0 np0 => ?_⟩
    have s0 : Same H (upd H p0 (.lst [.int 0])) := (Same.refl H).new np0
    refine ⟨_, rfl, d, _, rfl, .inl (s0.seq hd), _, _, rfl, rfl, p0, _, _, rfl, rfl, upd_same, ?_, ?_, ?_, fun pv npv => ?_⟩
    · have : (0 : Int) ≤ ((vn dt).length : Int) := Int.natCast_nonneg _
      omega
    · rw [vn_len]
      omega
    · rw [vn_len]
      show 1 * ((dt.length : Int) + 1).toNat ≤ sizeLine
      omega
    · have en : ((vn dt).length : Int) + 1 = ((dt.length + 1 : Nat) : Int) := by
        rw [vn_len]
        rfl
      have hpv : H pv = none := s0.free npv
      have L0 : LevAt H (upd (upd H p0 (.lst [.int 0])) pv (.lst (List.replicate (((vn dt).length : Int) + 1).toNat [V.int 0]).flatten)) pv (List.replicate (dt.length + 1) 0) := by
        refine ⟨s0.new npv, hpv, ?_⟩
        rw [upd_same, en, Int.toNat_natCast, vn_zeros]
      refine ⟨_, rfl, l, rfl, ⟨_, L0.same.seq (SqL.of hP.lst)⟩, for_list (K := K) (a := l) (xs := qs.map fun q : P4 => V.ref q.1)
        (fun i σ H' => ∃ x3 x4 x5 x6, σ = [some (.ref l), some (.ref d), some (.ref pv), x3, x4, x5, x6] ∧ LevAt H H' pv ((ps.take i).foldl (fun L p => Pm.layAll dt p L) (List.replicate (dt.length + 1) 0)))
        ⟨none, none, none, none, rfl, L0⟩ (fun i σ H' _ ⟨_, _, _, _, _, L⟩ => L.same.seq (SqL.of hP.lst)) ?_ ?_⟩
      · rintro i x σ H' hi ⟨x3, x4, x5, x6, rfl, L⟩
        rw [List.getElem?_map] at hi
        cases eq : qs[i]? with
        | none =>
          rw [eq] at hi
          cases hi
        | some q =>
          rw [eq] at hi
          cases hi
          have hip : i < ps.length := by
            rw [← hP.len]
            exact (List.getElem?_eq_some_iff.mp eq).1
          have hp := List.getElem?_eq_getElem hip
          have good := hgood _ (List.getElem_mem hip)
          have pat := hP.at_ i q _ eq hp
          have takes : (ps.take (i + 1)).foldl (fun L p => Pm.layAll dt p L) (List.replicate (dt.length + 1) 0) = Pm.layAll dt ps[i] ((ps.take i).foldl (fun L p => Pm.layAll dt p L) (List.replicate (dt.length + 1) 0)) := by
            rw [take_more hp, List.foldl_append]
            rfl
          have len0 : ((ps.take i).foldl (fun L p => Pm.layAll dt p L) (List.replicate (dt.length + 1) 0)).length = dt.length + 1 := by
            rw [Pm.fold_all_len, List.length_replicate]
          generalize ps[i] = p at *
          generalize (ps.take i).foldl (fun L p => Pm.layAll dt p L) (List.replicate (dt.length + 1) 0) = L1 at *
          have hsz := good.short
          have hsome : 0 < p.letters.length := List.length_pos_iff.mpr good.some_
          have pat' := pat.same L.same
          -- size = len(pattern.letters)
          refine ⟨_, rfl, q.1, C, q.2.1, _, _, rfl, pat'.ins, T.cl, T.nL, fPat_lt _ _, q.2.2.1, _, rfl, .inl (SqL.of pat'.lt), ?_⟩
          rw [vn_len]
          -- for start in range(len(dotted) - size + 1)
          refine ⟨_, rfl, d, _, rfl, .inl (L.same.seq hd), _, rfl, _, _, rfl, rfl, _, _, rfl, rfl, _, rfl, ?_, ?_, ?_⟩
          · rw [vn_len]
            omega
          · rw [vn_len]
            omega
          have turns : (((vn dt).length : Int) - (p.letters.length : Int) + 1).toNat = dt.length + 1 - p.letters.length := by
            rw [vn_len]
            omega
          rw [turns]
          refine for_range (lo := 0) (n := dt.length + 1 - p.letters.length)
            (fun j σ H' => ∃ x5 x6, σ = [some (.ref l), some (.ref d), some (.ref pv), some (.ref q.1), some (.int p.letters.length), x5, x6] ∧ LevAt H H' pv ((List.range j).foldl (fun L i => Pm.lay dt p i L) L1))
            ⟨x5, x6, rfl, L⟩ ?_ ?_
          · rintro j σ H2 hj ⟨y5, y6, rfl, L2'⟩
            rw [zero_add_cast]
            have more : (List.range (j + 1)).foldl (fun L i => Pm.lay dt p i L) L1 = Pm.lay dt p j ((List.range j).foldl (fun L i => Pm.lay dt p i L) L1) := by
              rw [List.range_succ, List.foldl_append]
              rfl
            have lenj : ((List.range j).foldl (fun L i => Pm.lay dt p i L) L1).length = dt.length + 1 := by
              rw [Pm.fold_lay_len, len0]
            generalize (List.range j).foldl (fun L i => Pm.lay dt p i L) L1 = L3 at *
            refine ⟨_, rfl, _, rfl, j, rfl, _, rfl, _, rfl, _, _, rfl, rfl, _, rfl, d, _, rfl, L2'.same.seq hd, fun pp npp => ?_⟩
            have hcut : cutV (vn dt) (some (j : Int)) (some ((j : Int) + (p.letters.length : Int))) = vn ((dt.drop j).take p.letters.length) := by
              rw [← cut_part dt j p.letters.length (by omega)]
              congr 2
            have L4 := L2'.later ((Same.refl H2).new (o := .lst (cutV (vn dt) (some (j : Int)) (some ((j : Int) + (p.letters.length : Int))))) npp)
            have hpp : upd H2 pp (.lst (cutV (vn dt) (some (j : Int)) (some ((j : Int) + (p.letters.length : Int))))) pp = some (.lst (vn ((dt.drop j).take p.letters.length))) := by
              rw [upd_same, hcut]
            generalize upd H2 pp (.lst (cutV (vn dt) (some (j : Int)) (some ((j : Int) + (p.letters.length : Int))))) = H3 at L4 hpp
            have pat4 := pat.same L4.same
            refine ⟨_, rfl, q.1, C, q.2.1, _, _, rfl, pat4.ins, T.cl, T.nL, fPat_lt _ _, _, _, dp_list (SqL.of hpp), dp_list (SqL.of pat4.lt), shaped_list _, shaped_list _, _, rfl, ?_⟩
            rw [eqv_list]
            by_cases hm : (dt.drop j).take p.letters.length = p.letters
            · have laid : Pm.lay dt p j L3 = Kh455.raiseAt j p.levels L3 := by
                unfold Pm.lay
                rw [if_pos hm]
              refine if_true_of (decide_eq_true hm) ?_
              refine ⟨_, rfl, _, _, rfl, rfl, _, rfl, ?_, ?_, ?_⟩
              · omega
              · omega
              have turns2 : ((p.letters.length : Int) + 1).toNat = p.levels.length := by
                rw [good.lv]
                rfl
              rw [turns2]
              refine for_range (lo := 0) (n := p.levels.length)
                (fun m σ H' => ∃ x6, σ = [some (.ref l), some (.ref d), some (.ref pv), some (.ref q.1), some (.int p.letters.length), some (.int j), x6] ∧ LevAt H H' pv (Kh455.raiseAt j (p.levels.take m) L3))
                ⟨y6, rfl, ?_⟩ ?_ ?_
              · have e : Kh455.raiseAt j (p.levels.take 0) L3 = L3 := by
                  rw [List.take_zero]
                  cases L3 <;> cases j <;> simp [Kh455.raiseAt]
                rw [e]
                exact L4
              · rintro m σ H5 hm2 ⟨z6, rfl, L5⟩
                rw [zero_add_cast]
                have hx := List.getElem?_eq_getElem hm2
                have hjm : j + m < (Kh455.raiseAt j (p.levels.take m) L3).length := by
                  rw [Pm.raise_len, lenj]
                  have := good.lv
                  omega
                have hy := List.getElem?_eq_getElem hjm
                have step := Pm.raise_more hx hy
                generalize p.levels[m] = x at hx step
                generalize (Kh455.raiseAt j (p.levels.take m) L3)[j + m] = y at hy step
                have pat5 := pat.same L5.same
                have place : (j : Int) + (m : Int) = ((j + m : Nat) : Int) := rfl
                refine ⟨_, rfl, _, rfl, _, rfl, _, _, rfl, rfl, pv, _, _, .int y, rfl, rfl, SqL.of L5.lv, atI_nat (vn_get hy), ?_⟩
                refine ⟨_, rfl, q.1, C, q.2.1, _, _, rfl, pat5.ins, T.cl, T.nV, fPat_lv _ _, _, rfl, q.2.2.2, _, _, _, rfl, rfl, SqL.of pat5.lv, atI_nat (vn_get hx), _, _, rfl, ?_⟩
                refine ⟨_, rfl, _, rfl, _, rfl, _, _, rfl, rfl, pv, _, _, j + m, rfl, rfl, L5.lv, ?_, ?_⟩
                · rw [place]
                  refine ixN_at ?_
                  rw [vn_len]
                  exact hjm
                · refine ⟨some (.int m), rfl, ?_⟩
                  have e : (vn (Kh455.raiseAt j (p.levels.take m) L3)).set (j + m) (.int (if (x : Int) > (y : Int) then (x : Int) else (y : Int))) = vn (Kh455.raiseAt j (p.levels.take (m + 1)) L3) := by
                    rw [max_cast, vn_set, step]
                  rw [e]
                  exact L5.put
              · rintro σ H5 ⟨z6, rfl, L5⟩
                rw [List.take_length, ← laid, ← more] at L5
                exact ⟨_, _, rfl, L5⟩
            · have laid : Pm.lay dt p j L3 = L3 := by
                unfold Pm.lay
                rw [if_neg hm]
              rw [laid] at more
              rw [← more] at L4
              exact if_false_of (decide_eq_false hm) ⟨_, _, rfl, L4⟩
          · rintro σ H2 ⟨y5, y6, rfl, L2'⟩
            refine ⟨_, _, _, _, rfl, ?_⟩
            rw [takes]
            exact L2'
      · rintro σ H' ⟨x3, x4, x5, x6, rfl, L⟩
        rw [List.length_map, hP.len, List.take_length, ← Pm.levelsPy_eq] at L
        exact ⟨_, rfl, k H' pv L.same L.lv⟩
end
end Pl

namespace Pl
open PySem PySem.Spec PyProof.Rows L2
def spPos (K : PySem.W.Frag) (C : Addr) : Sp := fun vs H Q _ => ∃ (l a : Addr) (qs : List P4) (ps : List Kh455.Pattern) (wd : List Nat), vs = [.ref l, .ref a] ∧ Pats C H l qs ps ∧ (∀ p ∈ ps, Pm.Good 900 p) ∧ SqL K H a (vn wd) ∧ wd.length ≤ 800 ∧
  ∀ (H' : Hp) (p : Addr), Same H H' → H p = none → H' p = some (.lst (vn (Kh455.hyphenate ps wd))) → Q (.ref p) H'
/-- the heap of a comprehension: what is made so far -/
structure MadeAt (H0 H : Hp) (D : Addr) (acc : List V) : Prop where
  same : Same H0 H
  d0 : H0 D = none
  at_ : H D = some (.lst acc)
theorem MadeAt.more {H0 H H' : Hp} {D : Addr} {acc : List V} (x : MadeAt H0 H D acc) (s : Same H H') (y : V) : H' D = some (.lst acc) ∧ MadeAt H0 (upd H' D (.lst (acc ++ [y]))) D (acc ++ [y]) :=
  ⟨s _ _ x.at_, (x.same.trans s).own x.d0, x.d0, upd_same⟩
/-- levels[k + 1] % 2 == 1 -/
def tOdd (K : PySem.W.Frag) : TT := tTest (tOp rEq (tOp (rI (fun _ j => 0 < j) fun i j => .int (i % j)) (tOp (rIxL K) (tVar 2) (tOp (rI0 fun i j => .int (i + j)) (tVar 4) (tC (.int 1)))) (tC (.int 2))) (tC (.int 1)))
section
variable {P : Program} {w : World} {K : PySem.W.Frag} {mg : Str → Option Value} {base : Heap} {f : Addr} {fd : FuncData}
theorem scPos : FnScope ["patterns", "word", "levels", "code", "k"] ["patterns", "word"] (defScope sPos) := ⟨rfl, rfl, rfl, by decide +kernel, rfl, by decide +kernel, by decide +kernel⟩
theorem ok_pos {C : Addr} (F : Fun K "positions_of" "positions_of" sPos f fd) (T : TPat K mg C) (mA : mg "all" = none) (ml : mg "len" = none) (mr : mg "range" = none) (mL : IntG mg "LEAST_LETTERS" 2) (DL : Def P w K mg base CX0 2 "is_letter" ["code"] (spFlag Kh455.isLetter))
    (DS : Def P w K mg base CX0 2 "to_small_letter" ["letter"] spLowerS) (DV : Def P w K mg base CX0 2 "levels_in" ["patterns", "dotted"] (spLev K C)) : FnOk P w K mg base CX0 6 f fd ["patterns", "word"] (spPos K C) := by
  refine F.ok scPos (fun vs H Q E h => ?_) (fun cdv A outer s H vs Q E hr h => ?_)
  · obtain ⟨l, d, qs, ps, dt, rfl, _⟩ := h
    rfl
  · have hr2 : Room 2 _ := hr.mono (by decide)
    refine ⟨_, pss_cons (ps_if (pt_not (pt_val (pe_callB (cr_all rfl) (by rfl) mA (by decide +kernel) (pa_cons
        (pe_lc (own := [("code", 3)]) (g := gName 3) (tt := tYes) rfl scPos.nd (pi_list (pv 1)) (blkOk_by (N := ["patterns", "word", "levels", "code", "k"]) (sc := defScope sPos) (by decide +kernel)) (fun _ _ _ _ _ => pg_name (i := 3) scPos.nd rfl (Or.inl rfl)) (fun _ _ _ _ _ => pts_nil)
          (fun _ _ _ _ _ => pe_d DL hr2 (by exact (pa_cons (pv 3) pa_nil)))) pa_nil)))) (pss_one (ps_ret (pe_lst pa_nil))) pss_nil)
      (pss_cons (ps_set (i := 2) scPos.nd rfl (Or.inr rfl) (pe_d DV hr2 (by exact (pa_cons (pv 0) (pa_cons
          (pe_op op_cat (pe_op op_cat (pe_lst (pa_cons (pe_gi T.pt) pa_nil))
            (pe_lc (own := [("code", 3)]) (g := gName 3) (tt := tYes) rfl scPos.nd (pi_list (pv 1)) (blkOk_by (N := ["patterns", "word", "levels", "code", "k"]) (sc := defScope sPos) (by decide +kernel)) (fun _ _ _ _ _ => pg_name (i := 3) scPos.nd rfl (Or.inl rfl)) (fun _ _ _ _ _ => pts_nil)
              (fun _ _ _ _ _ => pe_d DS hr2 (by exact (pa_cons (pv 3) pa_nil)))))
            (pe_lst (pa_cons (pe_gi T.pt) pa_nil))) pa_nil)))))
      (pss_one (ps_ret
        (pe_lc (own := [("k", 4)]) (g := gName 4) (tt := tOdd K) rfl scPos.nd (pi_range2 rfl mr (pa_cons (pe_gi mL) (pa_cons (pe_op op_add (pe_op op_sub (pe_callB call_len_seq (by rfl) ml PySem.boot_len (pa_cons (pv 1) pa_nil)) (pe_gi mL)) pe_int) pa_nil)))
          (blkOk_by (N := ["patterns", "word", "levels", "code", "k"]) (sc := defScope sPos) (by decide +kernel)) (fun _ _ _ _ _ => pg_name (i := 4) scPos.nd rfl (Or.inl rfl))
          (fun _ _ _ _ _ => pts_one (pt_cmpR op_eq (pe_op op_mod (pe_ix ix_list (pv 2) (pe_op op_add (pv 4) pe_int) (fun _ _ => rfl)) pe_int) pe_int (nomark _))) (fun _ _ _ _ _ => pv 4))))), ?_⟩
    obtain ⟨l, a, qs, ps, wd, rfl, hP, hgood, ha, hlen, k⟩ := h
    have good : ∀ p ∈ ps, p.letters ≠ [] := fun p hp => (hgood p hp).some_
    have result := Pm.hyphenate_eq ps wd good
    -- all([is_letter(code) for code in word])
    refine ⟨_, rfl, a, rfl, ⟨_, ha⟩, fun D nD => lc_list (K := K) (a := a) (xs := vn wd) (fun i H' => MadeAt H H' D (((wd.take i).map Kh455.isLetter).map V.bl))
      ⟨(Same.refl H).new nD, nD, upd_same⟩ (fun i H' _ M => M.same.seq ha) ?_ ?_⟩
    · intro i x H' hi M
      obtain ⟨c, hc, rfl⟩ := vn_of hi
      refine ⟨rfl, ?_⟩
      unfold tYes
      dsimp only
      rw [if_pos rfl]
      refine ⟨_, rfl, c, rfl, fun H2 s2 => ?_⟩
      obtain ⟨h1, h2⟩ := M.more s2 (.bl (Kh455.isLetter c))
      refine ⟨_, h1, small1000 (by rw [List.length_map, List.length_map, List.length_take]; omega), ?_⟩
      rw [take_more hc, List.map_append, List.map_append]
      exact h2
    · intro H1 M
      rw [vn_len, List.take_length] at M
      refine ⟨D, wd.map Kh455.isLetter, rfl, SqL.of M.at_, _, rfl, ?_⟩
      have eall : (wd.map Kh455.isLetter).all id = wd.all Kh455.isLetter := by
        rw [List.all_map]
        rfl
      rw [eall]
      cases ew : wd.all Kh455.isLetter with
      | false =>
        rw [ew, if_neg Bool.false_ne_true] at result
        refine iteT ⟨Nat.zero_le _, fun p np => k _ p (M.same.new np) (M.same.free np) ?_⟩
        rw [upd_same, result]
        rfl
      | true =>
        rw [ew, if_pos rfl] at result
        refine iteF ?_
        have s1 := M.same
        clear M
        -- levels_in(patterns, [POINT] + [..] + [POINT])
        refine ⟨_, rfl, (by show 1 ≤ sizeLine; decide), fun p1 np1 => ?_⟩
        have s2 : Same H (upd H1 p1 (.lst [.int 46])) := s1.new np1
        have e2 : upd H1 p1 (.lst [.int 46]) p1 = some (.lst [.int 46]) := upd_same
        generalize upd H1 p1 (.lst [.int 46]) = H2 at s2 e2
        refine ⟨_, rfl, a, rfl, ⟨_, s2.seq ha⟩, fun D2 nD2 => lc_list (K := K) (a := a) (xs := vn wd) (fun i H' => MadeAt H2 H' D2 (vn ((wd.take i).map Kh450.lowerCase)))
          ⟨(Same.refl H2).new nD2, nD2, upd_same⟩ (fun i H' _ M => M.same.seq (s2.seq ha)) ?_ ?_⟩
        · intro i x H' hi M
          obtain ⟨c, hc, rfl⟩ := vn_of hi
          refine ⟨rfl, ?_⟩
          unfold tYes
          dsimp only
          rw [if_pos rfl]
          refine ⟨_, rfl, c, rfl, fun H3 s3 => ?_⟩
          obtain ⟨h1, h2⟩ := M.more s3 (.int (Kh450.lowerCase c : Nat))
          refine ⟨_, h1, small1000 (by rw [vn_len, List.length_map, List.length_take]; omega), ?_⟩
          rw [take_more hc, List.map_append]
          show MadeAt H2 _ D2 (vn ((wd.take i).map Kh450.lowerCase ++ [Kh450.lowerCase c]))
          rw [← vn_snoc]
          exact h2
        · intro H3 M
          rw [vn_len, List.take_length] at M
          have big : 10000 ≤ sizeLine := by decide
          have f1 : H3 p1 = some (.lst [.int 46]) := M.same _ _ e2
          refine ⟨p1, D2, _, _, rfl, rfl, f1, M.at_, (by rw [vn_len, List.length_map]; simp; omega), fun p3 np3 => ?_⟩
          have s4 : Same H (upd H3 p3 (.lst ([.int 46] ++ vn (wd.map Kh450.lowerCase)))) := (s2.trans M.same).new np3
          have e4 : upd H3 p3 (.lst ([.int 46] ++ vn (wd.map Kh450.lowerCase))) p3 = some (.lst ([.int 46] ++ vn (wd.map Kh450.lowerCase))) := upd_same
          generalize upd H3 p3 (.lst ([.int 46] ++ vn (wd.map Kh450.lowerCase))) = H4 at s4 e4
          refine ⟨(by show 1 ≤ sizeLine; decide), fun p4 np4 => ?_⟩
          have f4 : upd H4 p4 (.lst [.int 46]) p3 = some (.lst ([.int 46] ++ vn (wd.map Kh450.lowerCase))) := by
            rw [upd_ne (ne_of_none e4 np4)]
            exact e4
          refine ⟨p3, p4, _, _, rfl, rfl, f4, upd_same, (by rw [List.length_append, vn_len, List.length_map]; simp; omega), fun p5 np5 => ?_⟩
          have s5 : Same H (upd (upd H4 p4 (.lst [.int 46])) p5 (.lst ([.int 46] ++ vn (wd.map Kh450.lowerCase) ++ [.int 46]))) := (s4.new np4).new np5
          have e5 : upd (upd H4 p4 (.lst [.int 46])) p5 (.lst ([.int 46] ++ vn (wd.map Kh450.lowerCase) ++ [.int 46])) p5 = some (.lst (vn ([46] ++ wd.map Kh450.lowerCase ++ [46]))) := by
            rw [upd_same]
            unfold vn
            rw [List.map_append, List.map_append]
            rfl
          generalize upd (upd H4 p4 (.lst [.int 46])) p5 (.lst ([.int 46] ++ vn (wd.map Kh450.lowerCase) ++ [.int 46])) = H5 at s5 e5
          refine ⟨l, p5, qs, ps, [46] ++ wd.map Kh450.lowerCase ++ [46], rfl, hP.same s5, hgood, SqL.of e5, (by simp; omega), fun H6 pl s6 hl => ?_⟩
          have s6' := s5.trans s6
          -- the positions
          have lenL : (Pm.levelsPy ps ([46] ++ wd.map Kh450.lowerCase ++ [46])).length = wd.length + 3 := by
            rw [Pm.levelsPy_eq, Pm.fold_all_len, List.length_replicate]
            simp
          generalize Pm.levelsPy ps ([46] ++ wd.map Kh450.lowerCase ++ [46]) = L at hl lenL result
          refine ⟨_, rfl, a, _, rfl, .inl (s6'.seq ha), _, _, rfl, rfl, _, _, rfl, rfl, _, _, rfl, ?_, fun D3 nD3 => ?_⟩
          · rw [vn_len]
            omega
          have turns : (((vn wd).length : Int) - 2 + 1 - 2).toNat = wd.length - 3 := by
            rw [vn_len]
            omega
          rw [turns]
          refine lc_range (lo := 2) (n := wd.length - 3) (fun i H' => MadeAt H6 H' D3 (vn (((List.range i).map (2 + ·)).filter fun k => L.getD (k + 1) 0 % 2 == 1))) ⟨(Same.refl H6).new nD3, nD3, upd_same⟩ ?_ ?_
          · intro i H' hi M
            have hik : 2 + i + 1 < L.length := by omega
            have hx := List.getElem?_eq_getElem hik
            have hd : L.getD (2 + i + 1) 0 = L[2 + i + 1] := by
              rw [List.getD_eq_getElem?_getD, hx]
              rfl
            generalize L[2 + i + 1] = x at hx hd
            have more : ((List.range (i + 1)).map (2 + ·)).filter (fun k => L.getD (k + 1) 0 % 2 == 1) = ((List.range i).map (2 + ·)).filter (fun k => L.getD (k + 1) 0 % 2 == 1) ++ (if x % 2 = 1 then [2 + i] else []) := by
              rw [List.range_succ, List.map_append, List.filter_append]
              congr 1
              rw [List.map_singleton, List.filter_cons, List.filter_nil, hd]
              by_cases h : x % 2 = 1
              · rw [if_pos h, if_pos (beq_iff_eq.mpr h)]
              · rw [if_neg h, if_neg (fun z => h (beq_iff_eq.mp z))]
            refine ⟨rfl, ?_⟩
            have hl' := M.same _ _ hl
            have place : (2 : Int) + (i : Int) + 1 = ((2 + i + 1 : Nat) : Int) := rfl
            refine ⟨_, rfl, _, rfl, _, _, rfl, rfl, pl, _, _, .int x, rfl, rfl, SqL.of hl', ?_, _, _, rfl, rfl, (by show (0 : Int) < 2; decide), rfl, _, rfl, ?_⟩
            · show atI (vn L) ((2 : Int) + (i : Int) + 1) = _
              rw [place]
              exact atI_nat (vn_get hx)
            · by_cases h : x % 2 = 1
              · rw [if_pos h] at more
                refine if_true_of (decide_eq_true ?_) ?_
                · show V.int ((x : Int) % 2) = V.int 1
                  congr 1
                  omega
                · obtain ⟨h1, h2⟩ := M.more (Same.refl H') (.int ((2 : Int) + (i : Int)))
                  have short : (((List.range i).map (2 + ·)).filter fun k => L.getD (k + 1) 0 % 2 == 1).length ≤ i := by
                    refine Nat.le_trans (List.length_filter_le _ _) ?_
                    rw [List.length_map, List.length_range]
                    exact Nat.le_refl _
                  refine ⟨_, rfl, _, h1, small1000 (by rw [vn_len]; omega), ?_⟩
                  rw [more, ← vn_snoc]
                  exact h2
              · rw [if_neg h, List.append_nil] at more
                refine if_false_of (decide_eq_false fun z => h ?_) ?_
                · have z' : V.int ((x : Int) % 2) = V.int 1 := z
                  injection z' with z'
                  omega
                · rw [more]
                  exact M
          · intro H7 M
            rw [← result] at M
            exact k H7 D3 (s6'.trans M.same) (s6'.free nD3) M.at_
end
end Pl

namespace Pl
open PySem PySem.Spec PyProof.Rows L2
/-! ### pieces -/
abbrev StrG (mg : Str → Option Value) (x s : Str) : Prop := ∃ t, mg x = some (.str s t)
theorem pe_gs {X : Cx} {x s : Str} {p : Pos} (h : StrG X.mg x s) (hg : Gl X x := by rfl) (hd : (x == ("__debug__" : Str)) = false := by decide) : PE X (.Name x p) (tC (.str s)) := by
  obtain ⟨t, h⟩ := h
  exact pe_glob hg h ⟨t, rfl⟩ hd
def js : Kh455.Joint → Str
  | .space => "space"
  | .hyphen => "hyphen"
  | .plain => "plain"
abbrev fPiece (ca : Addr) (z : Str) : List (Str × V) := [(("characters" : Str), .ref ca), (("joint" : Str), .str z)]
/-- a Piece's three objects: itself, its dict, its characters -/
abbrev P3 := Addr × Addr × Addr
structure PieceAt (C : Addr) (H : Hp) (q : P3) (p : Kh455.Piece) : Prop where
  ins : H q.1 = some (.ins C q.2.1 (fPiece q.2.2 (js p.joint)))
  ch : H q.2.2 = some (.lst (vn p.content))
theorem PieceAt.same {C : Addr} {H H' : Hp} {q : P3} {p : Kh455.Piece} (x : PieceAt C H q p) (s : Same H H') : PieceAt C H' q p := ⟨s _ _ x.ins, s _ _ x.ch⟩
def P3.off (q : P3) (D : Addr) : Prop := q.1 ≠ D ∧ q.2.2 ≠ D
theorem PieceAt.beside {C D : Addr} {H : Hp} {o : HO} {q : P3} {p : Kh455.Piece} (x : PieceAt C H q p) (h : q.off D) : PieceAt C (upd H D o) q p :=
  ⟨by rw [upd_ne h.1]; exact x.ins, by rw [upd_ne h.2]; exact x.ch⟩
abbrev refs3 (qs : List P3) : List V := qs.map fun q : P3 => V.ref q.1
/-- a list (at l) of Pieces -/
structure PcsAt (C : Addr) (H : Hp) (l : Addr) (qs : List P3) (ps : List Kh455.Piece) : Prop where
  lst : H l = some (.lst (refs3 qs))
  len : qs.length = ps.length
  at_ : ∀ (i : Nat) (q : P3) (p : Kh455.Piece), qs[i]? = some q → ps[i]? = some p → PieceAt C H q p
theorem PcsAt.same {C l : Addr} {H H' : Hp} {qs : List P3} {ps : List Kh455.Piece} (x : PcsAt C H l qs ps) (s : Same H H') : PcsAt C H' l qs ps := ⟨s _ _ x.lst, x.len, fun i q p h1 h2 => (x.at_ i q p h1 h2).same s⟩
/-- .. all of them made since H0 -/
structure Pcs (C : Addr) (H0 H : Hp) (l : Addr) (qs : List P3) (ps : List Kh455.Piece) : Prop where
  same : Same H0 H
  l0 : H0 l = none
  at_ : PcsAt C H l qs ps
  new : ∀ q ∈ qs, ∀ b, H0 b ≠ none → q.off b
  off : ∀ q ∈ qs, q.off l
theorem Pcs.later {C l : Addr} {H0 H H' : Hp} {qs : List P3} {ps : List Kh455.Piece} (x : Pcs C H0 H l qs ps) (s : Same H H') : Pcs C H0 H' l qs ps := ⟨x.same.trans s, x.l0, x.at_.same s, x.new, x.off⟩
theorem Pcs.start {C l : Addr} {H0 H : Hp} (s : Same H0 H) (n : H l = none) : Pcs C H0 (upd H l (.lst [])) l [] [] :=
  ⟨s.new n, s.free n, ⟨upd_same, rfl, fun i q p e => by simp at e⟩, (fun q h => absurd h List.not_mem_nil), (fun q h => absurd h List.not_mem_nil)⟩
/-- two lists of them, one behind the other -/
theorem at_cat {C D : Addr} {H : Hp} {o : HO} {qs qs2 : List P3} {ps ps2 : List Kh455.Piece} (hl : qs.length = ps.length) (h1 : ∀ (i : Nat) (q : P3) (p : Kh455.Piece), qs[i]? = some q → ps[i]? = some p → PieceAt C H q p) (o1 : ∀ q ∈ qs, q.off D)
    (h2 : ∀ (i : Nat) (q : P3) (p : Kh455.Piece), qs2[i]? = some q → ps2[i]? = some p → PieceAt C H q p) (o2 : ∀ q ∈ qs2, q.off D) (i : Nat) (q : P3) (p : Kh455.Piece) (e1 : (qs ++ qs2)[i]? = some q) (e2 : (ps ++ ps2)[i]? = some p) : PieceAt C (upd H D o) q p := by
  by_cases hi : i < qs.length
  · rw [List.getElem?_append_left hi] at e1
    rw [List.getElem?_append_left (by rw [← hl]; exact hi)] at e2
    exact (h1 i q p e1 e2).beside (o1 q (List.mem_of_getElem? e1))
  · have hi' : qs.length ≤ i := Nat.le_of_not_lt hi
    rw [List.getElem?_append_right hi'] at e1
    rw [List.getElem?_append_right (by rw [← hl]; exact hi'), ← hl] at e2
    exact (h2 _ q p e1 e2).beside (o2 q (List.mem_of_getElem? e1))
/-- others, made since, are put behind -/
theorem Pcs.extend {C l l2 : Addr} {H0 H H' : Hp} {qs qs2 : List P3} {ps ps2 : List Kh455.Piece} (x : Pcs C H0 H l qs ps) (y : Pcs C H H' l2 qs2 ps2) : Pcs C H0 (upd H' l (.lst (refs3 qs ++ refs3 qs2))) l (qs ++ qs2) (ps ++ ps2) := by
  have hl : H l ≠ none := by
    rw [x.at_.lst]
    exact fun z => nomatch z
  refine ⟨(x.same.trans y.same).own x.l0, x.l0, ⟨?_, ?_, ?_⟩, fun q h b hb => ?_, fun q h => ?_⟩
  · have e : refs3 (qs ++ qs2) = refs3 qs ++ refs3 qs2 := List.map_append
    rw [upd_same, e]
  · rw [List.length_append, List.length_append, x.at_.len, y.at_.len]
  · exact at_cat x.at_.len (x.at_.same y.same).at_ x.off y.at_.at_ fun q h => y.new q h l hl
  · rcases List.mem_append.mp h with z | z
    · exact x.new q z b hb
    · refine y.new q z b fun e => ?_
      cases e0 : H0 b with
      | none => exact hb e0
      | some o =>
        rw [x.same b o e0] at e
        cases e
  · rcases List.mem_append.mp h with z | z
    · exact x.off q z
    · exact y.new q z l hl
/-- one more, made since -/
theorem Pcs.more {C l : Addr} {H0 H H' : Hp} {qs : List P3} {q : P3} {ps : List Kh455.Piece} {p : Kh455.Piece} (x : Pcs C H0 H l qs ps) (s : Same H H') (y : PieceAt C H' q p) (n : ∀ b, H b ≠ none → q.off b) :
    Pcs C H0 (upd H' l (.lst (refs3 qs ++ [.ref q.1]))) l (qs ++ [q]) (ps ++ [p]) := by
  have hl : H l ≠ none := by
    rw [x.at_.lst]
    exact fun z => nomatch z
  have one : ∀ (i : Nat) (r : P3) (v : Kh455.Piece), [q][i]? = some r → [p][i]? = some v → PieceAt C H' r v := fun i r v e1 e2 => by
    cases i with
    | zero =>
      simp only [List.getElem?_cons_zero, Option.some.injEq] at e1 e2
      subst e1 e2
      exact y
    | succ i => simp at e1
  refine ⟨(x.same.trans s).own x.l0, x.l0, ⟨?_, ?_, ?_⟩, fun r h b hb => ?_, fun r h => ?_⟩
  · have e : refs3 (qs ++ [q]) = refs3 qs ++ [.ref q.1] := List.map_append
    rw [upd_same, e]
  · rw [List.length_append, List.length_append, x.at_.len]
    rfl
  · exact at_cat x.at_.len (x.at_.same s).at_ x.off one fun r h => by
      rw [List.mem_singleton.mp h]
      exact n l hl
  · rcases List.mem_append.mp h with z | z
    · exact x.new r z b hb
    · rw [List.mem_singleton.mp z]
      refine n b fun e => ?_
      cases e0 : H0 b with
      | none => exact hb e0
      | some o =>
        rw [x.same b o e0] at e
        cases e
  · rcases List.mem_append.mp h with z | z
    · exact x.off r z
    · rw [List.mem_singleton.mp z]
      exact n l hl
structure TPc (K : PySem.W.Frag) (mg : Str → Option Value) (C : Addr) : Prop where
  cl : Cls K C
  nC : NoAttr K C "characters"
  nJ : NoAttr K C "joint"
  gC : mg "Piece" = some (.ref C)
  hy : IntG mg "HYPHEN" 45
  sj : StrG mg "SPACE_JOINT" "space"
  pj : StrG mg "PLAIN_JOINT" "plain"
  hj : StrG mg "HYPHEN_JOINT" "hyphen"
def spPieceI (C : Addr) : Sp := fun vs H Q _ => ∃ (p dx ca : Addr) (z : Str), vs = [.ref p, .ref ca, .str z] ∧ H p = some (.ins C dx []) ∧ ∀ H' : Hp, H' p = some (.ins C dx (fPiece ca z)) → (∀ b, b ≠ p → H' b = H b) → Q .non H'
def spParts (K : PySem.W.Frag) : Sp := fun vs H Q _ => ∃ (a : Addr) (w : List Nat), vs = [.ref a] ∧ SqL K H a (vn w) ∧ w.length ≤ 1000 ∧ ∀ (H' : Hp) (p : Addr) (as : List Addr), Same H H' → Lists H' p as (Kh455.splitHyphens w) → Q (.ref p) H'
def spPcPart (K : PySem.W.Frag) (CT C : Addr) : Sp := fun vs H Q _ => ∃ (l a : Addr) (qp : List P4) (pp : List Kh455.Pattern) (w : List Nat) (j : Kh455.Joint), vs = [.ref l, .ref a, .str (js j)] ∧ Pats CT H l qp pp ∧ (∀ p ∈ pp, Pm.Good 900 p) ∧ SqL K H a (vn w) ∧ w.length ≤ 800 ∧
  ∀ (H' : Hp) (m : Addr) (qs : List P3), Pcs C H H' m qs (Kh455.partPieces pp w j) → Q (.ref m) H'
def spPcWord (K : PySem.W.Frag) (CT C : Addr) : Sp := fun vs H Q _ => ∃ (l a : Addr) (qp : List P4) (pp : List Kh455.Pattern) (w : List Nat), vs = [.ref l, .ref a] ∧ Pats CT H l qp pp ∧ (∀ p ∈ pp, Pm.Good 900 p) ∧ SqL K H a (vn w) ∧ w.length ≤ 800 ∧ w ≠ [] ∧
  ∀ (H' : Hp) (m : Addr) (qs : List P3), Pcs C H H' m qs (Kh455.wordPieces pp w) → Q (.ref m) H'
def spPieces (K : PySem.W.Frag) (CT C : Addr) : Sp := fun vs H Q _ => ∃ (l a : Addr) (qp : List P4) (pp : List Kh455.Pattern) (t : List Nat), vs = [.ref l, .ref a] ∧ Pats CT H l qp pp ∧ (∀ p ∈ pp, Pm.Good 900 p) ∧ SqL K H a (vn t) ∧ t.length ≤ 800 ∧
  ∀ (H' : Hp) (m : Addr) (qs : List P3), Pcs C H H' m qs (Kh455.pieces pp t) → Q (.ref m) H'
theorem cut_any (l : List Nat) (i j : Nat) (h : i ≤ l.length) : cutV (vn l) (some (i : Int)) (some (j : Int)) = vn ((l.drop i).take (j - i)) := by
  unfold cutV
  rw [HT.sIx_nat, HT.sIx_nat, vn_len, Nat.min_eq_left h]
  unfold vn
  rw [List.map_take, List.map_drop]
  apply List.ext_getElem?
  intro k
  rw [List.getElem?_take, List.getElem?_take, List.getElem?_drop]
  by_cases h1 : k < j - i
  · rw [if_pos h1]
    by_cases h2 : k < min j l.length - i
    · rw [if_pos h2]
    · rw [if_neg h2, List.getElem?_eq_none]
      rw [List.length_map]
      omega
  · rw [if_neg h1, if_neg (by omega)]
theorem cut_from (l : List Nat) (i : Nat) (h : i ≤ l.length) : cutV (vn l) (some (i : Int)) none = vn (l.drop i) := by
  unfold cutV
  rw [HT.sIx_nat, HT.sIx_none, vn_len, Nat.min_eq_left h]
  unfold vn
  rw [List.map_drop]
  apply List.take_of_length_le
  rw [List.length_drop, List.length_map]
  exact Nat.le_refl _
section
variable {P : Program} {w : World} {K : PySem.W.Frag} {mg : Str → Option Value} {base : Heap} {f : Addr} {fd : FuncData}
theorem scPieceI : FnScope ["self", "characters", "joint"] ["self", "characters", "joint"] (defScope sPieceI) := ⟨rfl, rfl, rfl, by decide +kernel, rfl, by decide +kernel, by decide +kernel⟩
theorem ok_pieceI {C : Addr} (F : Fun K "__init__" "Piece.__init__" sPieceI f fd) (T : TPc K mg C) : FnOk P w K mg base CX0 1 f fd ["self", "characters", "joint"] (spPieceI C) := by
  refine F.ok scPieceI (fun vs H Q E h => ?_) (fun cdv A outer s H vs Q E hr h => ⟨_, pss_cons (ps_fld (pv 0) (pv 1) rfl) (pss_one (ps_fld (pv 0) (pv 2) rfl)), ?_⟩)
  · obtain ⟨p, dx, ca, z, rfl, _⟩ := h
    rfl
  · obtain ⟨p, dx, ca, z, rfl, hp, k⟩ := h
    refine ⟨_, rfl, _, rfl, p, C, dx, [], rfl, hp, T.cl, T.nC, (by show 0 < 1000; decide), ?_⟩
    refine ⟨_, rfl, _, rfl, p, C, dx, _, rfl, upd_same, T.cl, T.nJ, (by show 1 < 1000; decide), ?_⟩
    refine k _ ?_ fun b hb => by rw [upd_ne hb, upd_ne hb]
    rw [upd_same]
    have e : putF "joint" (.str z) (putF "characters" (.ref ca) ([] : List (Str × V))) = fPiece ca z := by
      show putF "joint" (.str z) [(("characters" : Str), V.ref ca)] = _
      unfold putF
      rw [if_neg (by decide +kernel)]
      rfl
    exact congrArg (fun q => some (HO.ins C dx q)) e
theorem scParts : FnScope ["word", "parts", "start", "at"] ["word"] (defScope sParts) := ⟨rfl, rfl, rfl, by decide +kernel, rfl, by decide +kernel, by decide +kernel⟩
theorem ok_parts {C : Addr} (F : Fun K "parts_of" "parts_of" sParts f fd) (T : TPc K mg C) (ml : mg "len" = none) (mr : mg "range" = none) : FnOk P w K mg base CX0 2 f fd ["word"] (spParts K) := by
  refine F.ok scParts (fun vs H Q E h => ?_) (fun cdv A outer s H vs Q E hr h => ?_)
  · obtain ⟨a, t, rfl, _⟩ := h
    rfl
  · refine ⟨_, pss_cons (ps_set (i := 1) scParts.nd rfl (Or.inl rfl) (pe_lst pa_nil))
      (pss_cons (ps_set (i := 2) scParts.nd rfl (Or.inl rfl) pe_int)
      (pss_cons (ps_for PassesOwn.never rfl (pi_range2 rfl mr (pa_cons pe_int (pa_cons (pe_callB call_len_seq (by rfl) ml PySem.boot_len (pa_cons (pv 0) pa_nil)) pa_nil))) (pg_name (i := 3) scParts.nd rfl (Or.inl rfl))
        (pss_one (ps_if (PW.pt (pw_and (pt_cmpR op_eq (pe_ix ix_list (pv 0) (pe_op op_sub (pv 3) pe_int) (fun _ _ => rfl)) (pe_gi T.hy) (nomark _)) (pw_and1 (pt_cmpR op_ne (pe_ix ix_list (pv 0) (pv 3) (fun _ _ => rfl)) (pe_gi T.hy) (nomark _)))))
          (pss_cons (ps_expr (pe_bm PySem.F.plainAttrs_list PySem.F.slot_list_append PySem.F.type_list_append mt_append (pv 1) (pa_cons (pe_slice sl_list (pv 0) (po_some (pv 2)) (po_some (pv 3))) pa_nil)))
            (pss_one (ps_set (i := 2) scParts.nd rfl (Or.inl rfl) (pv 3))))
          pss_nil)))
      (pss_cons (ps_expr (pe_bm PySem.F.plainAttrs_list PySem.F.slot_list_append PySem.F.type_list_append mt_append (pv 1) (pa_cons (pe_slice sl_list (pv 0) (po_some (pv 2)) po_none) pa_nil)))
      (pss_one (ps_ret (pv 1)))))), ?_⟩
    obtain ⟨a, t, rfl, hS, hlen, k⟩ := h
    have big : 900000 < sizeLine := by decide
    refine ⟨Nat.zero_le _, fun l nl => ?_⟩
    have s1 : Same H (upd H l (.lst [])) := (Same.refl H).new nl
    refine ⟨_, rfl, a, _, rfl, .inl (s1.seq hS), _, _, rfl, (by rw [vn_len]; omega), ?_⟩
    have turns : (((vn t).length : Int) - 1).toNat = t.length - 1 := by
      rw [vn_len]
      omega
    rw [turns]
    refine for_range (lo := 1) (n := t.length - 1) (fun j σ H' => ∃ (as : List Addr) (ws : List (List Nat)) (st : Nat) (x : Option V), σ = [some (.ref a), some (.ref l), some (.int st), x] ∧ Same H H' ∧ Lists H' l as ws ∧ l ∉ as ∧ ws.length ≤ j ∧ Pm.SplitAt t ws st j)
      ⟨[], [], 0, none, rfl, s1, ⟨upd_same, rfl, fun i a w e => by simp at e⟩, List.not_mem_nil, Nat.le_refl _, Pm.split_start t⟩ ?_ ?_
    · rintro j σ H' hj ⟨as, ws, st, x, rfl, s2, L, nla, hws, hsp⟩
      have h0 := List.getElem?_eq_getElem (show j < t.length by omega)
      have h1 := List.getElem?_eq_getElem (show j + 1 < t.length by omega)
      have step := Pm.split_step hsp h0 h1
      have hst := hsp.1
      generalize t[j] = c at h0 step
      generalize t[j + 1] = d at h1 step
      have p0 : (1 : Int) + (j : Int) - 1 = (j : Int) := by omega
      have p1 : (1 : Int) + (j : Int) = ((j + 1 : Nat) : Int) := by omega
      rw [p1]
      refine ⟨_, rfl, _, rfl, _, _, rfl, rfl, a, _, _, .int c, rfl, rfl, s2.seq hS, ?_, rfl, _, rfl, ?_⟩
      · show atI (vn t) (((j + 1 : Nat) : Int) - 1) = _
        rw [← p1, p0]
        exact atI_nat (vn_get h0)
      · by_cases hc : c = 45
        · refine if_true_of (decide_eq_true (by rw [hc]; rfl)) ?_
          refine ⟨_, rfl, _, rfl, a, _, _, .int d, rfl, rfl, s2.seq hS, atI_nat (vn_get h1), rfl, _, rfl, ?_⟩
          by_cases hd : d = 45
          · rw [if_neg (fun z => z.2 hd), if_neg (fun z => z.2 hd)] at step
            have e : (!decide (V.int (d : Int) = V.int 45)) = false := by
              rw [hd]
              rfl
            refine if_false_of e ?_
            exact ⟨as, ws, st, some (.int (j + 1 : Nat)), rfl, s2, L, nla, Nat.le_succ_of_le hws, step⟩
          · rw [if_pos ⟨hc, hd⟩, if_pos ⟨hc, hd⟩] at step
            have e : (!decide (V.int (d : Int) = V.int 45)) = true := by
              rw [decide_eq_false]
              · rfl
              · intro z
                injection z with z
                exact hd (by omega)
            refine if_true_of e ?_
            refine ⟨_, rfl, .inl ⟨rfl, _, SqL.of L.lst⟩, _, rfl, _, rfl, _, rfl, _, rfl, _, rfl, a, _, rfl, s2.seq hS, fun c nc => ?_⟩
            have s3 : Same H' (upd H' c (.lst (cutV (vn t) (some (st : Int)) (some ((j + 1 : Nat) : Int))))) := (Same.refl H').new nc
            have hcq : upd H' c (.lst (cutV (vn t) (some (st : Int)) (some ((j + 1 : Nat) : Int)))) c = some (.lst (vn ((t.drop st).take (j + 1 - st)))) := by
              rw [upd_same, cut_any t st (j + 1) (by omega)]
            generalize upd H' c (.lst (cutV (vn t) (some (st : Int)) (some ((j + 1 : Nat) : Int)))) = H3 at s3 hcq
            have L3 := L.same s3
            have ncl : c ≠ l := (ne_of_none L.lst nc).symm
            refine ⟨l, _, _, rfl, rfl, L3.lst, (by rw [List.length_map, L.len]; omega), ?_⟩
            have nlas : l ∉ as ++ [c] := fun z => by
              rcases List.mem_append.mp z with z | z
              · exact nla z
              · exact ncl (List.mem_singleton.mp z).symm
            exact ⟨_, rfl, _, _, j + 1, some (.int (j + 1 : Nat)), rfl, (s2.trans s3).own nl, L3.more hcq ncl nla, nlas, by simp; omega, step⟩
        · rw [if_neg (fun z => hc z.1), if_neg (fun z => hc z.1)] at step
          refine if_false_of (decide_eq_false fun z => hc ?_) (iteF ?_)
          · injection z with z
            omega
          · exact ⟨as, ws, st, some (.int (j + 1 : Nat)), rfl, s2, L, nla, Nat.le_succ_of_le hws, step⟩
    · rintro σ H' ⟨as, ws, st, x, rfl, s2, L, nla, hws, hsp⟩
      have hst := hsp.1
      have done := Pm.split_end hsp
      refine ⟨_, rfl, .inl ⟨rfl, _, SqL.of L.lst⟩, _, rfl, _, rfl, _, rfl, a, _, rfl, s2.seq hS, fun c nc => ?_⟩
      have s3 : Same H' (upd H' c (.lst (cutV (vn t) (some (st : Int)) none))) := (Same.refl H').new nc
      have hcq : upd H' c (.lst (cutV (vn t) (some (st : Int)) none)) c = some (.lst (vn (t.drop st))) := by
        rw [upd_same, cut_from t st (by omega)]
      generalize upd H' c (.lst (cutV (vn t) (some (st : Int)) none)) = H3 at s3 hcq
      have L3 := L.same s3
      have ncl : c ≠ l := (ne_of_none L.lst nc).symm
      refine ⟨l, _, _, rfl, rfl, L3.lst, (by rw [List.length_map, L.len]; omega), ?_⟩
      refine ⟨_, rfl, k _ l (as ++ [c]) ((s2.trans s3).own nl) ?_⟩
      rw [done]
      exact L3.more hcq ncl nla
end
end Pl

namespace Pl
open PySem PySem.Spec PyProof.Rows L2
theorem cut_front (xs : List V) : cutV xs none (some (-1)) = xs.dropLast := by
  unfold cutV
  have e : HT.sIx xs.length xs.length (some (-1)) = xs.length - 1 := by
    show (if (-1 : Int) < 0 then ((-1 : Int) + (xs.length : Int)).toNat else min (-1 : Int).toNat xs.length) = _
    rw [if_pos (by decide)]
    omega
  rw [e, HT.sIx_none, List.drop_zero, List.dropLast_eq_take, Nat.sub_zero]
section
variable {P : Program} {w : World} {K : PySem.W.Frag} {mg : Str → Option Value} {base : Heap} {f : Addr} {fd : FuncData}
theorem scPcPart : FnScope ["patterns", "part", "last_joint", "pieces", "start", "position"] ["patterns", "part", "last_joint"] (defScope sPcPart) := ⟨rfl, rfl, rfl, by decide +kernel, rfl, by decide +kernel, by decide +kernel⟩
theorem ok_pcPart {CT C fI : Addr} {fdI : FuncData} (F : Fun K "pieces_of_part" "pieces_of_part" sPcPart f fd) (T : TPc K mg C) (M : Mk K C fI) (GI : FnOk P w K mg base CX0 1 fI fdI ["self", "characters", "joint"] (spPieceI C)) (bI : Binds K fdI ["self", "characters", "joint"] [])
    (DO : Def P w K mg base CX0 6 "positions_of" ["patterns", "word"] (spPos K CT)) : FnOk P w K mg base CX0 8 f fd ["patterns", "part", "last_joint"] (spPcPart K CT C) := by
  refine F.ok scPcPart (fun vs H Q E h => ?_) (fun cdv A outer s H vs Q E hr h => ?_)
  · obtain ⟨l, a, qp, pp, wd, j, rfl, _⟩ := h
    rfl
  · have hr6 : Room 6 _ := hr.mono (by decide)
    have hr2 : Room 2 _ := hr.mono (by decide)
    refine ⟨_, pss_cons (ps_set (i := 3) scPcPart.nd rfl (Or.inl rfl) (pe_lst pa_nil))
      (pss_cons (ps_set (i := 4) scPcPart.nd rfl (Or.inl rfl) pe_int)
      (pss_cons (ps_for PassesOwn.never rfl (pi_list (pe_d DO hr6 (by exact (pa_cons (pv 0) (pa_cons (pv 1) pa_nil))))) (pg_name (i := 5) scPcPart.nd rfl (Or.inl rfl))
        (pss_cons (ps_expr (pe_bm PySem.F.plainAttrs_list PySem.F.slot_list_append PySem.F.type_list_append mt_append (pv 3)
            (pa_cons (pe_make M GI hr2 rfl T.gC bI .nil pass0 (by exact (pa_cons (pe_slice sl_list (pv 1) (po_some (pv 4)) (po_some (pv 5))) (pa_cons (pe_gs T.hj) pa_nil)))) pa_nil)))
          (pss_one (ps_set (i := 4) scPcPart.nd rfl (Or.inl rfl) (pv 5)))))
      (pss_cons (ps_expr (pe_bm PySem.F.plainAttrs_list PySem.F.slot_list_append PySem.F.type_list_append mt_append (pv 3)
            (pa_cons (pe_make M GI hr2 rfl T.gC bI .nil pass0 (by exact (pa_cons (pe_slice sl_list (pv 1) (po_some (pv 4)) po_none) (pa_cons (pv 2) pa_nil)))) pa_nil)))
      (pss_one (ps_ret (pv 3)))))), ?_⟩
    obtain ⟨l, a, qp, pp, wd, jt, rfl, hP, hgood, ha, hlen, k⟩ := h
    have big : 900000 < sizeLine := by decide
    have due := Pm.partPieces_eq pp wd jt
    obtain ⟨hris, hin⟩ := Pm.hyph_rising pp wd fun p hp => (hgood p hp).some_
    have hcount := Pm.hyph_len pp wd fun p hp => (hgood p hp).some_
    refine ⟨Nat.zero_le _, fun m nm => ?_⟩
    have s1 : Same H (upd H m (.lst [])) := (Same.refl H).new nm
    have P0 : Pcs C H (upd H m (.lst [])) m [] [] := Pcs.start (Same.refl H) nm
    generalize upd H m (.lst []) = H1 at s1 P0
    refine ⟨_, rfl, _, rfl, l, a, qp, pp, wd, rfl, hP.same s1, hgood, s1.seq ha, hlen, fun H2 pl s2 fpl hpl => ?_⟩
    generalize Kh455.hyphenate pp wd = pos at due hris hin hcount hpl
    have P1 := P0.later s2
    have npl : pl ≠ m := fun z => by
      rw [z, P0.at_.lst] at fpl
      cases fpl
    refine ⟨pl, rfl, ⟨_, SqL.of hpl⟩, for_list (K := K) (a := pl) (xs := vn pos)
      (fun i σ H' => ∃ (qs : List P3) (ps : List Kh455.Piece) (st : Nat) (x : Option V), σ = [some (.ref l), some (.ref a), some (.str (js jt)), some (.ref m), some (.int st), x] ∧ Pcs C H H' m qs ps ∧ H' pl = some (.lst (vn pos)) ∧ st ≤ wd.length ∧
        ps.length = i ∧ Pm.Rising st (pos.drop i) ∧ Kh455.partPieces pp wd jt = ps ++ Pm.cuts jt st (pos.drop i) (wd.drop st))
      ⟨[], [], 0, none, rfl, P1, hpl, Nat.zero_le _, rfl, hris, due⟩ (fun i σ H' _ ⟨_, _, _, _, _, _, h, _⟩ => SqL.of h) ?_ ?_⟩
    · rintro i x σ H' hi ⟨qs, ps, st, x5, rfl, Q1, hpl', hst, hlen2, hr', hdue⟩
      obtain ⟨p, hp, rfl⟩ := vn_of hi
      have hil : i < pos.length := (List.getElem?_eq_some_iff.mp hp).1
      have hdrop : pos.drop i = p :: pos.drop (i + 1) := by
        obtain ⟨h1, h2⟩ := List.getElem?_eq_some_iff.mp hp
        rw [← h2]
        exact List.drop_eq_getElem_cons h1
      rw [hdrop] at hr' hdue
      obtain ⟨hsp, hr''⟩ := hr'
      have hpw := hin p (List.mem_of_getElem? hp)
      have sa := (Q1.same).seq ha
      refine ⟨_, rfl, .inl ⟨rfl, _, SqL.of Q1.at_.lst⟩, _, rfl, _, rfl, _, rfl, _, rfl, _, rfl, a, _, rfl, sa, fun c nc => ?_⟩
      have s3 : Same H' (upd H' c (.lst (cutV (vn wd) (some (st : Int)) (some (p : Int))))) := (Same.refl H').new nc
      have hc : upd H' c (.lst (cutV (vn wd) (some (st : Int)) (some (p : Int)))) c = some (.lst (vn ((wd.drop st).take (p - st)))) := by
        rw [upd_same, cut_any wd st p hst]
      generalize upd H' c (.lst (cutV (vn wd) (some (st : Int)) (some (p : Int)))) = H3 at s3 hc
      intro x dx nx ndx ne
      refine ⟨x, dx, c, "hyphen", rfl, upd_same, fun H4 hx hb => ⟨rfl, ?_⟩⟩
      have s4 : Same H3 H4 := fun b o e => by
        have bx : b ≠ x := ne_of_none e nx
        have bdx : b ≠ dx := ne_of_none e ndx
        rw [hb b bx, upd_ne bx, upd_ne bdx]
        exact e
      have made : PieceAt C H4 (x, dx, c) ⟨(wd.drop st).take (p - st), .hyphen⟩ := ⟨hx, s4 _ _ hc⟩
      have offs : ∀ b, H' b ≠ none → P3.off (x, dx, c) b := fun b hne => by
        refine ⟨fun z => ?_, fun z => ?_⟩
        · have z' : x = b := z
          rw [← z'] at hne
          exact hne (s3.free nx)
        · have z' : c = b := z
          rw [← z'] at hne
          exact hne nc
      have hl4 := s4 _ _ (s3 _ _ Q1.at_.lst)
      refine ⟨m, _, _, rfl, rfl, hl4, (by rw [refs3, List.length_map, Q1.at_.len]; omega), ?_⟩
      refine ⟨_, rfl, qs ++ [(x, dx, c)], ps ++ [⟨(wd.drop st).take (p - st), .hyphen⟩], p, some (.int p), rfl, Q1.more (s3.trans s4) made offs, ?_, (by omega), (by simp [hlen2]), hr'', ?_⟩
      · rw [upd_ne npl]
        exact s4 _ _ (s3 _ _ hpl')
      · rw [hdue, List.append_assoc]
        show ps ++ (_ :: _) = ps ++ ([_] ++ _)
        rw [List.drop_drop, show st + (p - st) = p by omega]
        rfl
    · rintro σ H' ⟨qs, ps, st, x5, rfl, Q1, hpl', hst, hlen2, hr', hdue⟩
      rw [vn_len] at hlen2 hdue
      have e0 : pos.drop pos.length = [] := List.drop_eq_nil_of_le (Nat.le_refl _)
      rw [e0] at hdue
      have sa := (Q1.same).seq ha
      refine ⟨_, rfl, .inl ⟨rfl, _, SqL.of Q1.at_.lst⟩, _, rfl, _, rfl, _, rfl, a, _, rfl, sa, fun c nc => ?_⟩
      have s3 : Same H' (upd H' c (.lst (cutV (vn wd) (some (st : Int)) none))) := (Same.refl H').new nc
      have hc : upd H' c (.lst (cutV (vn wd) (some (st : Int)) none)) c = some (.lst (vn (wd.drop st))) := by
        rw [upd_same, cut_from wd st hst]
      generalize upd H' c (.lst (cutV (vn wd) (some (st : Int)) none)) = H3 at s3 hc
      refine ⟨_, rfl, ?_⟩
      intro x dx nx ndx ne
      refine ⟨x, dx, c, js jt, rfl, upd_same, fun H4 hx hb => ⟨rfl, ?_⟩⟩
      have s4 : Same H3 H4 := fun b o e => by
        have bx : b ≠ x := ne_of_none e nx
        have bdx : b ≠ dx := ne_of_none e ndx
        rw [hb b bx, upd_ne bx, upd_ne bdx]
        exact e
      have made : PieceAt C H4 (x, dx, c) ⟨wd.drop st, jt⟩ := ⟨hx, s4 _ _ hc⟩
      have offs : ∀ b, H' b ≠ none → P3.off (x, dx, c) b := fun b hne => by
        refine ⟨fun z => ?_, fun z => ?_⟩
        · have z' : x = b := z
          rw [← z'] at hne
          exact hne (s3.free nx)
        · have z' : c = b := z
          rw [← z'] at hne
          exact hne nc
      have hl4 := s4 _ _ (s3 _ _ Q1.at_.lst)
      refine ⟨m, _, _, rfl, rfl, hl4, (by rw [refs3, List.length_map, Q1.at_.len]; omega), ?_⟩
      refine ⟨_, rfl, k _ m (qs ++ [(x, dx, c)]) ?_⟩
      rw [hdue]
      exact Q1.more (s3.trans s4) made offs
theorem scPcWord : FnScope ["patterns", "word", "parts", "pieces", "part"] ["patterns", "word"] (defScope sPcWord) := ⟨rfl, rfl, rfl, by decide +kernel, rfl, by decide +kernel, by decide +kernel⟩
theorem refs3_len (qs : List P3) : (refs3 qs).length = qs.length := List.length_map _
/-- so many pieces at most -/
theorem Pcs.few {C l : Addr} {H0 H : Hp} {qs : List P3} {ps : List Kh455.Piece} (x : Pcs C H0 H l qs ps) (h : ∀ p ∈ ps, p.content ≠ []) : qs.length ≤ Pm.letters ps := by
  rw [x.at_.len]
  exact Pm.count_le ps h
theorem ok_pcWord {CT C : Addr} (F : Fun K "pieces_of_word" "pieces_of_word" sPcWord f fd) (T : TPc K mg C) (DA : Def P w K mg base CX0 2 "parts_of" ["word"] (spParts K)) (DP : Def P w K mg base CX0 8 "pieces_of_part" ["patterns", "part", "last_joint"] (spPcPart K CT C)) :
    FnOk P w K mg base CX0 10 f fd ["patterns", "word"] (spPcWord K CT C) := by
  refine F.ok scPcWord (fun vs H Q E h => ?_) (fun cdv A outer s H vs Q E hr h => ?_)
  · obtain ⟨l, a, qp, pp, wd, rfl, _⟩ := h
    rfl
  · have hr8 : Room 8 _ := hr.mono (by decide)
    have hr2 : Room 2 _ := hr.mono (by decide)
    refine ⟨_, pss_cons (ps_set (i := 2) scPcWord.nd rfl (Or.inl rfl) (pe_d DA hr2 (by exact (pa_cons (pv 1) pa_nil))))
      (pss_cons (ps_set (i := 3) scPcWord.nd rfl (Or.inl rfl) (pe_lst pa_nil))
      (pss_cons (ps_for PassesOwn.never rfl (pi_list (pe_slice sl_list (pv 2) po_none (po_some (pe_un un_neg pe_int)))) (pg_name (i := 4) scPcWord.nd rfl (Or.inl rfl))
        (pss_one (ps_expr (pe_bm PySem.F.plainAttrs_list PySem.F.slot_list_extend PySem.F.type_list_extend mt_extend (pv 3) (pa_cons (pe_d DP hr8 (by exact (pa_cons (pv 0) (pa_cons (pv 4) (pa_cons (pe_gs T.pj) pa_nil))))) pa_nil)))))
      (pss_cons (ps_expr (pe_bm PySem.F.plainAttrs_list PySem.F.slot_list_extend PySem.F.type_list_extend mt_extend (pv 3) (pa_cons (pe_d DP hr8 (by exact (pa_cons (pv 0) (pa_cons (pe_ix ix_list (pv 2) (pe_un un_neg pe_int) (fun _ _ => rfl)) (pa_cons (pe_gs T.sj) pa_nil))))) pa_nil)))
      (pss_one (ps_ret (pv 3)))))), ?_⟩
    obtain ⟨l, a, qp, pp, wd, rfl, hP, hgood, ha, hlen, hne, k⟩ := h
    have big : 900000 < sizeLine := by decide
    have goods : ∀ p ∈ pp, p.letters ≠ [] := fun p hp => (hgood p hp).some_
    refine ⟨_, rfl, a, wd, rfl, ha, (by omega), fun H1 pl as s1 L => ?_⟩
    obtain ⟨fr, la, hfl⟩ := Pm.front_last (Pm.split_full wd)
    have due := Pm.wordPieces_eq pp wd hfl
    have sizes_ := Pm.split_parts wd
    have sum_ := Pm.split_sum wd
    rw [hfl] at L sizes_ sum_
    obtain ⟨as1, a1, has⟩ : ∃ as1 a1, as = as1 ++ [a1] := by
      have ne : as ≠ [] := fun z => by
        have := L.len
        rw [z] at this
        simp at this
      exact ⟨as.dropLast, as.getLast ne, (List.dropLast_concat_getLast ne).symm⟩
    subst has
    have hlen1 : as1.length = fr.length := by
      have := L.len
      simpa using this
    refine ⟨Nat.zero_le _, fun m nm => ?_⟩
    have P0 : Pcs C H (upd H1 m (.lst [])) m [] [] := Pcs.start s1 nm
    have L0 : Lists (upd H1 m (.lst [])) pl (as1 ++ [a1]) (fr ++ [la]) := L.same ((Same.refl H1).new nm)
    have pne : pl ≠ m := ne_of_none L.lst nm
    have ane : m ∉ as1 ++ [a1] := fun z => by
      obtain ⟨j, hj, e⟩ := List.getElem_of_mem z
      have e1' : (as1 ++ [a1])[j]? = some m := by rw [List.getElem?_eq_getElem hj, e]
      have hj2 : j < (fr ++ [la]).length := by rw [← L.len]; exact hj
      have z2 := L.at_ j m _ e1' (List.getElem?_eq_getElem hj2)
      rw [nm] at z2
      cases z2
    generalize upd H1 m (.lst []) = H2 at P0 L0
    refine ⟨_, rfl, _, rfl, _, rfl, pl, _, rfl, SqL.of L0.lst, fun c nc => ?_⟩
    have hcut : cutV ((as1 ++ [a1]).map V.ref) none (some (-1)) = as1.map V.ref := by
      rw [cut_front, List.map_append]
      exact List.dropLast_concat
    have s3 : Same H2 (upd H2 c (.lst (cutV ((as1 ++ [a1]).map V.ref) none (some (-1))))) := (Same.refl H2).new nc
    have hc : upd H2 c (.lst (cutV ((as1 ++ [a1]).map V.ref) none (some (-1)))) c = some (.lst (as1.map V.ref)) := by
      rw [upd_same, hcut]
    have cne : c ≠ m := (ne_of_none P0.at_.lst nc).symm
    have P1 := P0.later s3
    have L1 := L0.same s3
    generalize upd H2 c (.lst (cutV ((as1 ++ [a1]).map V.ref) none (some (-1)))) = H3 at s3 hc P1 L1
    have small : ∀ i, Pm.letters ((fr.take i).flatMap fun p => Kh455.partPieces pp p .plain) + la.length ≤ wd.length := fun i => by
      rw [Pm.flat_letters _ fun p => Pm.partPieces_letters pp p .plain]
      have e1 : Pm.sizes fr = Pm.sizes (fr.take i) + Pm.sizes (fr.drop i) := by
        rw [← Pm.sizes_cat, List.take_append_drop]
      have e2 : Pm.sizes [la] = la.length := by simp [Pm.sizes]
      rw [Pm.sizes_cat] at sum_
      omega
    have full : ∀ i, ∀ p ∈ (fr.take i).flatMap (fun p => Kh455.partPieces pp p .plain), p.content ≠ [] := fun i p hp => by
      obtain ⟨q, hq, z⟩ := List.mem_flatMap.mp hp
      exact Pm.partPieces_full pp q .plain goods ((sizes_ q (List.mem_append_left _ (List.mem_of_mem_take hq))).2 hne) p z
    refine ⟨c, rfl, ⟨_, SqL.of hc⟩, for_list (K := K) (a := c) (xs := as1.map V.ref)
      (fun i σ H' => ∃ (qs : List P3) (x : Option V), σ = [some (.ref l), some (.ref a), some (.ref pl), some (.ref m), x] ∧ Pcs C H H' m qs ((fr.take i).flatMap fun p => Kh455.partPieces pp p .plain) ∧ H' c = some (.lst (as1.map V.ref)) ∧ Lists H' pl (as1 ++ [a1]) (fr ++ [la]))
      ⟨[], none, rfl, P1, hc, L1⟩ (fun i σ H' _ ⟨_, _, _, _, h, _⟩ => SqL.of h) ?_ ?_⟩
    · rintro i x σ H' hi ⟨qs, x4, rfl, Q1, hc', L'⟩
      rw [List.getElem?_map] at hi
      cases ea : as1[i]? with
      | none =>
        rw [ea] at hi
        cases hi
      | some ai =>
        rw [ea] at hi
        cases hi
        have hil : i < as1.length := (List.getElem?_eq_some_iff.mp ea).1
        have hif : i < fr.length := by omega
        have hw := List.getElem?_eq_getElem hif
        have hmem : fr[i] ∈ fr := List.getElem_mem hif
        have takes : (fr.take (i + 1)).flatMap (fun p => Kh455.partPieces pp p .plain) = (fr.take i).flatMap (fun p => Kh455.partPieces pp p .plain) ++ Kh455.partPieces pp fr[i] .plain := by
          rw [take_more hw, List.flatMap_append]
          simp
        have hpart := L'.at_ i ai fr[i] (by rw [List.getElem?_append_left hil]; exact ea) (by rw [List.getElem?_append_left hif]; exact hw)
        have hsz := sizes_ fr[i] (List.mem_append_left _ hmem)
        generalize fr[i] = part at *
        refine ⟨_, rfl, .inl ⟨rfl, _, SqL.of Q1.at_.lst⟩, _, rfl, _, rfl, l, ai, qp, pp, part, .plain, rfl, hP.same Q1.same, hgood, SqL.of hpart, (by omega), fun H4 m2 qs2 Y => ?_⟩
        have f1 := Q1.few (full i)
        have f2 := Y.few (Pm.partPieces_full pp part .plain goods (hsz.2 hne))
        rw [Pm.partPieces_letters] at f2
        have f3 := small i
        refine ⟨m, m2, _, _, rfl, rfl, Y.same _ _ Q1.at_.lst, Y.at_.lst, (by rw [refs3_len, refs3_len]; omega), ?_⟩
        refine ⟨qs ++ qs2, some (.ref ai), rfl, ?_, ?_, ?_⟩
        · rw [takes]
          exact Q1.extend Y
        · rw [upd_ne cne]
          exact Y.same _ _ hc'
        · exact (L'.same Y.same).beside pne ane
    · rintro σ H' ⟨qs, x4, rfl, Q1, hc', L'⟩
      rw [List.length_map, hlen1, List.take_length] at Q1
      have hlast := L'.at_ as1.length a1 la (by simp) (by rw [hlen1]; simp)
      have hsz := sizes_ la (List.mem_append_right _ List.mem_cons_self)
      refine ⟨_, rfl, .inl ⟨rfl, _, SqL.of Q1.at_.lst⟩, _, rfl, _, rfl, _, rfl, pl, _, -1, .ref a1, rfl, rfl, SqL.of L'.lst, ?_, l, a1, qp, pp, la, .space, rfl, hP.same Q1.same, hgood, SqL.of hlast, (by omega), fun H4 m2 qs2 Y => ?_⟩
      · rw [List.map_append]
        exact atI_last _ _
      · have fulls := full fr.length
        rw [List.take_length] at fulls
        have f1 := Q1.few fulls
        have f2 := Y.few (Pm.partPieces_full pp la .space goods (hsz.2 hne))
        rw [Pm.partPieces_letters] at f2
        have f3 := small fr.length
        rw [List.take_length] at f3
        refine ⟨m, m2, _, _, rfl, rfl, Y.same _ _ Q1.at_.lst, Y.at_.lst, (by rw [refs3_len, refs3_len]; omega), ?_⟩
        refine ⟨_, rfl, k _ m (qs ++ qs2) ?_⟩
        rw [due]
        exact Q1.extend Y
theorem scPieces : FnScope ["patterns", "text", "pieces", "word"] ["patterns", "text"] (defScope sPieces) := ⟨rfl, rfl, rfl, by decide +kernel, rfl, by decide +kernel, by decide +kernel⟩
theorem ok_pieces {CT C : Addr} (F : Fun K "pieces_of" "pieces_of" sPieces f fd) (T : TPc K mg C) (DW : Def P w K mg base CX0 4 "words_of" ["text"] (spWords K)) (DP : Def P w K mg base CX0 10 "pieces_of_word" ["patterns", "word"] (spPcWord K CT C)) :
    FnOk P w K mg base CX0 12 f fd ["patterns", "text"] (spPieces K CT C) := by
  refine F.ok scPieces (fun vs H Q E h => ?_) (fun cdv A outer s H vs Q E hr h => ?_)
  · obtain ⟨l, a, qp, pp, wd, rfl, _⟩ := h
    rfl
  · have hr10 : Room 10 _ := hr.mono (by decide)
    have hr4 : Room 4 _ := hr.mono (by decide)
    refine ⟨_, pss_cons (ps_set (i := 2) scPieces.nd rfl (Or.inl rfl) (pe_lst pa_nil))
      (pss_cons (ps_for PassesOwn.never rfl (pi_list (pe_d DW hr4 (by exact (pa_cons (pv 1) pa_nil)))) (pg_name (i := 3) scPieces.nd rfl (Or.inl rfl))
        (pss_one (ps_expr (pe_bm PySem.F.plainAttrs_list PySem.F.slot_list_extend PySem.F.type_list_extend mt_extend (pv 2) (pa_cons (pe_d DP hr10 (by exact (pa_cons (pv 0) (pa_cons (pv 3) pa_nil)))) pa_nil)))))
      (pss_one (ps_ret (pv 2)))), ?_⟩
    obtain ⟨l, a, qp, pp, t, rfl, hP, hgood, ha, hlen, k⟩ := h
    have big : 900000 < sizeLine := by decide
    have goods : ∀ p ∈ pp, p.letters ≠ [] := fun p hp => (hgood p hp).some_
    refine ⟨Nat.zero_le _, fun m nm => ?_⟩
    have s1 : Same H (upd H m (.lst [])) := (Same.refl H).new nm
    have P0 : Pcs C H (upd H m (.lst [])) m [] [] := Pcs.start (Same.refl H) nm
    generalize upd H m (.lst []) = H1 at s1 P0
    refine ⟨_, rfl, a, t, rfl, s1.seq ha, (by omega), fun H2 pl as s2 fpl fas L => ?_⟩
    have P1 := P0.later s2
    have wfull := Pm.words_full t
    have wsum := Pm.words_sum t
    have wshort := (Pm.words_short t).2
    have due : Kh455.pieces pp t = (Kh455.wordsOf t).flatMap (Kh455.wordPieces pp) := rfl
    generalize Kh455.wordsOf t = ws at L wfull wsum wshort due
    have pne : pl ≠ m := fun z => by
      rw [z, P0.at_.lst] at fpl
      cases fpl
    have ane : m ∉ as := fun z => by
      have := fas m z
      rw [P0.at_.lst] at this
      cases this
    refine ⟨pl, rfl, ⟨_, SqL.of L.lst⟩, for_list (K := K) (a := pl) (xs := as.map V.ref)
      (fun i σ H' => ∃ (qs : List P3) (x : Option V), σ = [some (.ref l), some (.ref a), some (.ref m), x] ∧ Pcs C H H' m qs ((ws.take i).flatMap (Kh455.wordPieces pp)) ∧ Lists H' pl as ws)
      ⟨[], none, rfl, P1, L⟩ (fun i σ H' _ ⟨_, _, _, _, h⟩ => SqL.of h.lst) ?_ ?_⟩
    · rintro i x σ H' hi ⟨qs, x4, rfl, Q1, L'⟩
      rw [List.getElem?_map] at hi
      cases ea : as[i]? with
      | none =>
        rw [ea] at hi
        cases hi
      | some ai =>
        rw [ea] at hi
        cases hi
        have hif : i < ws.length := by
          rw [← L'.len]
          exact (List.getElem?_eq_some_iff.mp ea).1
        have hw := List.getElem?_eq_getElem hif
        have hmem : ws[i] ∈ ws := List.getElem_mem hif
        have takes : (ws.take (i + 1)).flatMap (Kh455.wordPieces pp) = (ws.take i).flatMap (Kh455.wordPieces pp) ++ Kh455.wordPieces pp ws[i] := by
          rw [take_more hw, List.flatMap_append]
          simp
        have hword := L'.at_ i ai ws[i] ea hw
        have wf := wfull ws[i] hmem
        have wl := wshort ws[i] hmem
        have full : ∀ p ∈ (ws.take i).flatMap (Kh455.wordPieces pp), p.content ≠ [] := fun p hp => by
          obtain ⟨q, hq, z⟩ := List.mem_flatMap.mp hp
          exact Pm.wordPieces_full pp q goods (wfull q (List.mem_of_mem_take hq)) p z
        have f1 := Q1.few full
        have f4 : Pm.letters ((ws.take i).flatMap (Kh455.wordPieces pp)) ≤ t.length := by
          rw [Pm.flat_letters _ (Pm.wordPieces_letters pp)]
          have e1 : Pm.sizes ws = Pm.sizes (ws.take i) + Pm.sizes (ws.drop i) := by
            rw [← Pm.sizes_cat, List.take_append_drop]
          omega
        generalize ws[i] = wd at *
        refine ⟨_, rfl, .inl ⟨rfl, _, SqL.of Q1.at_.lst⟩, _, rfl, _, rfl, l, ai, qp, pp, wd, rfl, hP.same Q1.same, hgood, SqL.of hword, (by omega), wf, fun H4 m2 qs2 Y => ?_⟩
        have f2 := Y.few (Pm.wordPieces_full pp wd goods wf)
        rw [Pm.wordPieces_letters] at f2
        refine ⟨m, m2, _, _, rfl, rfl, Y.same _ _ Q1.at_.lst, Y.at_.lst, (by rw [refs3_len, refs3_len]; omega), ?_⟩
        refine ⟨qs ++ qs2, some (.ref ai), rfl, ?_, (L'.same Y.same).beside pne ane⟩
        rw [takes]
        exact Q1.extend Y
    · rintro σ H' ⟨qs, x4, rfl, Q1, L'⟩
      rw [List.length_map, L'.len, List.take_length, ← due] at Q1
      exact ⟨_, rfl, k H' m qs Q1⟩
end
end Pl

namespace Pm
/-- the lower bytes, and what is above them -/
def lowBytes (c : Nat) : Nat → List Nat × Nat
  | 0 => ([], c)
  | m + 1 => ((128 + (lowBytes c m).2 % 64) :: (lowBytes c m).1, (lowBytes c m).2 / 64)
theorem low_len (c : Nat) : ∀ m, (lowBytes c m).1.length = m
  | 0 => rfl
  | m + 1 => by
    show (lowBytes c m).1.length + 1 = _
    rw [low_len c m]
theorem wSize_cases (c : Nat) : wSize c = 2 ∨ wSize c = 3 ∨ wSize c = 4 := by
  unfold wSize
  split
  · exact .inl rfl
  · split
    · exact .inr (.inl rfl)
    · exact .inr (.inr rfl)
theorem encode_low {c : Nat} (h : ¬ c < 128) : Kh450.encodeUtf8 c = (leads (wSize c) + (lowBytes c (wSize c - 1)).2) :: (lowBytes c (wSize c - 1)).1 := by
  rw [encode_eq, if_neg h]
  rcases wSize_cases c with e | e | e <;> rw [e] <;> rfl
end Pm
namespace Pl
open PySem PySem.Spec PyProof.Rows L2
/-! ### bytes are written -/
/-- how far the second loop of write_sequence is -/
def longAt (p : Addr) (H : Hp) : Nat := match H p with
  | some (HO.lst xs) => xs.length
  | _ => 0
/-- how many bytes the first loop has found -/
def sizeAt (σ : L2.St) : Nat := match σ[1]? with
  | some (some (V.int i)) => i.toNat
  | _ => 0
def spWriteSeq : Sp := fun vs H Q _ => ∃ c : Nat, vs = [.int c] ∧ ∀ (H' : Hp) (p : Addr), Same H H' → H p = none → H' p = some (.lst (vn (Kh450.encodeUtf8 c))) → Q (.ref p) H'
def spWrite (K : PySem.W.Frag) : Sp := fun vs H Q _ => ∃ (a : Addr) (t : List Nat), vs = [.ref a] ∧ SqL K H a (vn t) ∧ t.length ≤ 100000 ∧ ∀ (H' : Hp) (p : Addr), Same H H' → H p = none → H' p = some (.lst (vn (Kh450.encodeAll t))) → Q (.ref p) H'
section
variable {P : Program} {w : World} {K : PySem.W.Frag} {mg : Str → Option Value} {base : Heap} {f : Addr} {fd : FuncData}
theorem scWriteSeq : FnScope ["code", "size", "octets", "rest"] ["code"] (defScope sWriteSeq) := ⟨rfl, rfl, rfl, by decide +kernel, rfl, by decide +kernel, by decide +kernel⟩
theorem ok_writeSeq (F : Fun K "write_sequence" "write_sequence" sWriteSeq f fd) (ml : mg "len" = none) (TL : TupG K mg "LEADS" [0, 0, 192, 224, 240]) (TS : TupG K mg "SMALLEST" [0, 0, 128, 2048, 65536]) : FnOk P w K mg base CX0 2 f fd ["code"] spWriteSeq := by
  obtain ⟨tl, hl, sl⟩ := TL
  obtain ⟨tsm, hs, ss⟩ := TS
  refine F.ok scWriteSeq (fun vs H Q E h => ?_) (fun cdv A outer s H vs Q E hr h => ?_)
  · obtain ⟨c, rfl, _⟩ := h
    rfl
  · refine ⟨_, pss_cons (ps_if (pt_cmpR op_lt (pv 0) pe_int (nomark _)) (pss_one (ps_ret (pe_lst (pa_cons (pv 0) pa_nil)))) pss_nil)
      (pss_cons (ps_set (i := 1) scWriteSeq.nd rfl (Or.inl rfl) pe_int)
      (pss_cons (ps_while PassesOwn.never (PW.pt (pw_and (pt_cmpR op_lt (pv 1) pe_int (nomark _)) (pw_and1 (pt_cmpR op_ge (pv 0) (pe_ix ix_tup (pe_gt hs) (pe_op op_add (pv 1) pe_int) (fun _ _ => rfl)) (nomark _)))))
        (pss_one (ps_aug (i := 1) scWriteSeq.nd rfl (.inl rfl) pe_int ip_add)))
      (pss_cons (ps_set (i := 2) scWriteSeq.nd rfl (Or.inl rfl) (pe_lst pa_nil))
      (pss_cons (ps_set (i := 3) scWriteSeq.nd rfl (Or.inl rfl) (pv 0))
      (pss_cons (ps_while PassesOwn.never (pt_cmpR op_lt (pe_callB call_len_seq (by rfl) ml PySem.boot_len (pa_cons (pv 2) pa_nil)) (pe_op op_sub (pv 1) pe_int) (nomark _))
        (pss_cons (ps_expr (pe_bm PySem.F.plainAttrs_list PySem.F.slot_list_insert PySem.F.type_list_insert mt_insert (pv 2) (pa_cons pe_int (pa_cons (pe_op op_add pe_int (pe_op op_mod (pv 3) pe_int)) pa_nil))))
          (pss_one (ps_set (i := 3) scWriteSeq.nd rfl (Or.inl rfl) (pe_op op_fdiv (pv 3) pe_int)))))
      (pss_one (ps_ret (pe_op op_cat (pe_lst (pa_cons (pe_op op_add (pe_ix ix_tup (pe_gt hl) (pv 1) (fun _ _ => rfl)) (pv 3)) pa_nil)) (pv 2))))))))), ?_⟩
    obtain ⟨c, rfl, k⟩ := h
    have due := Pm.encode_eq c
    refine ⟨_, rfl, _, _, rfl, rfl, _, rfl, ?_⟩
    by_cases h0 : c < 128
    · rw [if_pos h0] at due
      refine if_true_of (decide_eq_true (by omega)) ⟨_, rfl, (by show 1 ≤ sizeLine; decide), fun p np => k _ p ((Same.refl H).new np) np ?_⟩
      rw [upd_same, due]
      rfl
    · rw [if_neg h0] at due
      refine if_false_of (decide_eq_false (by omega)) ?_
      have low := Pm.encode_low h0
      have hsz := Pm.wSize_cases c
      -- behind the size: octets, rest
      have fin : ∀ n : Nat, n = Pm.wSize c → tSeq (tAsg (tLst tNil) (gName 2)) (tSeq (tAsg (tVar 0) (gName 3)) (tSeq (tWhile (tTest (tOp (rI0 fun i j => .bl (decide (i < j)))
            (tCB (fun xs H Q => ∃ p ys, xs = [.ref p] ∧ (SqL K H p ys ∨ SqT K H p ys) ∧ Q (.int ys.length) H) (tCons (tVar 2) tNil)) (tOp (rI0 fun i j => .int (i - j)) (tVar 1) (tC (.int 1)))))
          (tSeq (tDrop (tBM K "list" (fun x vs H Q => ∃ (l : Addr) (xs : List V) (i : Int) (y : V), x = .ref l ∧ vs = [.int i, y] ∧ H l = some (.lst xs) ∧ xs.length < sizeLine ∧ 0 ≤ i ∧ i < 2 ^ 63 ∧ Q .non (upd H l (.lst (xs.take i.toNat ++ [y] ++ xs.drop i.toNat)))) (tVar 2)
              (tCons (tC (.int 0)) (tCons (tOp (rI0 fun i j => .int (i + j)) (tC (.int 128)) (tOp (rI (fun _ j => 0 < j) fun i j => .int (i % j)) (tVar 3) (tC (.int 64)))) tNil))))
            (tAsg (tOp (rI CDiv fun i j => .int (i / j)) (tVar 3) (tC (.int 64))) (gName 3))))
          (tRet (tOp rCat (tLst (tCons (tOp (rI0 fun i j => .int (i + j)) (tOp (rIxT K) (tC (.ref tl)) (tVar 1)) (tVar 3)) tNil)) (tVar 2)))))
          { nx := fun x H' => Q .non H', rt := Q } [some (.int c), some (.int n), none, none] H := fun n en => by
        refine ⟨Nat.zero_le _, fun po npo => ⟨_, rfl, ?_⟩⟩
        refine while_by (fun σ H' => ∃ m : Nat, σ = [some (.int c), some (.int n), some (.ref po), some (.int (Pm.lowBytes c m).2)] ∧ Same H H' ∧ H' po = some (.lst (vn (Pm.lowBytes c m).1)) ∧ m ≤ n - 1) (fun σ H' => 10 - longAt po H')
          ⟨0, rfl, (Same.refl H).new npo, upd_same, Nat.zero_le _⟩ ?_ ?_
        · rintro σ H' ⟨m, rfl, s1, hpo, hm⟩
          refine ⟨_, rfl, po, _, rfl, .inl (SqL.of hpo), _, rfl, _, _, rfl, rfl, _, _, rfl, rfl, _, rfl, ?_⟩
          rw [vn_len, Pm.low_len]
          by_cases hlt : m < n - 1
          · refine if_true_of (decide_eq_true (by omega)) ?_
            refine ⟨_, rfl, .inl ⟨rfl, _, SqL.of hpo⟩, _, rfl, _, _, rfl, rfl, (by show (0 : Int) < 64; decide), _, _, rfl, rfl, po, _, 0, _, rfl, rfl, hpo, small1000 (by rw [vn_len, Pm.low_len]; omega), (by decide), (by decide), ?_⟩
            refine ⟨_, rfl, _, _, rfl, rfl, ⟨by decide, by decide⟩, ⟨m + 1, rfl, s1.own npo, ?_, (by omega)⟩, ?_⟩
            · rw [upd_same]
              rfl
            · have e1 : longAt po H' = m := by
                unfold longAt
                rw [hpo]
                show (vn (Pm.lowBytes c m).1).length = m
                rw [vn_len, Pm.low_len]
              have e2 : ∀ xs : List V, longAt po (upd H' po (.lst xs)) = xs.length := fun xs => by
                unfold longAt
                rw [upd_same]
              rw [e1, e2]
              simp only [List.length_append, List.length_cons, List.length_nil, List.length_take, List.length_drop, vn_len, Pm.low_len]
              omega
          · have em : m = n - 1 := by omega
            subst em
            refine if_false_of (decide_eq_false (by omega)) ?_
            refine ⟨_, rfl, tl, _, _, .int (Pm.leads n : Nat), rfl, rfl, sl _, tup5 (leads_at (by omega)), _, rfl, _, _, rfl, rfl, (by show 1 ≤ sizeLine; decide), fun p1 np1 => ?_⟩
            have hpo1 : upd H' p1 (.lst [.int ((Pm.leads n : Nat) + (Pm.lowBytes c (n - 1)).2 : Int)]) po = some (.lst (vn (Pm.lowBytes c (n - 1)).1)) := by
              rw [upd_ne (ne_of_none hpo np1)]
              exact hpo
            refine ⟨_, rfl, p1, po, _, _, rfl, rfl, upd_same, hpo1, ?_, fun p2 np2 => k _ p2 ((s1.new np1).new np2) ((s1.new np1).free np2) ?_⟩
            · have big : 10000 ≤ sizeLine := by decide
              rw [vn_len, Pm.low_len]
              simp
              omega
            · rw [upd_same, low, ← en]
              rfl
        · rintro σ H' Q1 Q2 hq ⟨v2, e2, p, ys, ep, sq, v, e, i1, j1, ei1, ej1, i, j, ei, ej, k, ek, q⟩
          exact ⟨v2, e2, p, ys, ep, sq, v, e, i1, j1, ei1, ej1, i, j, ei, ej, k, ek, hq _ _ q⟩
      -- the size
      refine while_by (fun σ H' => ∃ n : Nat, σ = [some (.int c), some (.int n), none, none] ∧ H' = H ∧ (n = 2 ∨ (n = 3 ∧ 2048 ≤ c) ∨ (n = 4 ∧ 65536 ≤ c))) (fun σ H' => 10 - sizeAt σ) ⟨2, rfl, rfl, .inl rfl⟩ ?_ ?_
      · rintro σ H' ⟨n, rfl, rfl, hn⟩
        refine ⟨_, rfl, _, _, rfl, rfl, _, rfl, ?_⟩
        by_cases h4 : n < 4
        · refine if_true_of (decide_eq_true (by omega)) ?_
          refine ⟨_, rfl, _, rfl, _, _, rfl, rfl, tsm, _, _, .int (Pm.smallest (n + 1) : Nat), rfl, rfl, ss _, tup5 (smallest_at (n := n + 1) (by omega)), _, _, rfl, rfl, _, rfl, ?_⟩
          by_cases hc : Pm.smallest (n + 1) ≤ c
          · refine if_true_of (decide_eq_true (by omega)) ?_
            refine ⟨_, rfl, _, _, rfl, rfl, ⟨n + 1, rfl, rfl, ?_⟩, ?_⟩
            · rcases hn with rfl | ⟨rfl, _⟩ | ⟨rfl, _⟩
              · exact .inr (.inl ⟨rfl, hc⟩)
              · exact .inr (.inr ⟨rfl, hc⟩)
              · omega
            · show 10 - ((n : Int) + 1).toNat < 10 - (n : Int).toNat
              omega
          · refine if_false_of (decide_eq_false (by omega)) ?_
            have en : n = Pm.wSize c := by
              unfold Pm.wSize
              rcases hn with rfl | ⟨rfl, h2⟩ | ⟨rfl, h2⟩
              · have : c < 2048 := by
                  have q : Pm.smallest (2 + 1) = 2048 := rfl
                  omega
                rw [if_pos this]
              · have : c < 65536 := by
                  have q : Pm.smallest (3 + 1) = 65536 := rfl
                  omega
                rw [if_neg (by omega), if_pos this]
              · omega
            exact fin n en
        · refine if_false_of (decide_eq_false (by omega)) ?_
          have en : n = Pm.wSize c := by
            unfold Pm.wSize
            rcases hn with rfl | ⟨rfl, h2⟩ | ⟨rfl, h2⟩
            · omega
            · omega
            · rw [if_neg (by omega), if_neg (by omega)]
          exact fin n en
      · rintro σ H' Q1 Q2 hq ⟨v, e, i, j, ei, ej, k1, ek, q⟩
        refine ⟨v, e, i, j, ei, ej, k1, ek, ?_⟩
        cases k1 with
        | false => exact iteF (hq _ _ (by simpa using q))
        | true =>
          rw [if_pos rfl] at q
          obtain ⟨v1, e1, v2, e2, i1, j1, ei1, ej1, p, xs, i2, v3, ep, ei2, hs2, hat, i3, j3, ei3, ej3, k2, ek2, q2⟩ := q
          exact iteT ⟨v1, e1, v2, e2, i1, j1, ei1, ej1, p, xs, i2, v3, ep, ei2, hs2, hat, i3, j3, ei3, ej3, k2, ek2, hq _ _ q2⟩
end
end Pl

namespace Pl
open PySem PySem.Spec PyProof.Rows L2
/-- what len(xs) asks -/
abbrev rLen (K : PySem.W.Frag) : List V → Hp → VK → Prop := fun xs H Q => ∃ p ys, xs = [.ref p] ∧ (SqL K H p ys ∨ SqT K H p ys) ∧ Q (.int ys.length) H
theorem vn_cat (a b : List Nat) : vn a ++ vn b = vn (a ++ b) := (List.map_append).symm
def spCheck (CO : Addr) : Sp := fun vs H Q E => ∃ n : Nat, vs = [.int n] ∧ (¬ (10 ≤ n ∧ n ≤ 80) → ∀ d, H d = none → E (.ref CO) (some d) (upd H d (.xd (fAns (-22))))) ∧ ((10 ≤ n ∧ n ≤ 80) → Q .non H)
/-- the lines, joined and written, their number of bytes ahead -/
def spAnswer (K : PySem.W.Frag) : Sp := fun vs H Q _ => ∃ (l : Addr) (as : List Addr) (ls : List (List Nat)), vs = [.ref l] ∧ Lists H l as ls ∧ Pm.sizes ls ≤ 40000 ∧ ls.length ≤ 40000 ∧
  ∀ (H' : Hp) (p : Addr), Same H H' → H' p = some (.lst (vn ((Kh450.encodeAll (Kh450.joinTexts [10] ls)).length :: Kh450.encodeAll (Kh450.joinTexts [10] ls)))) → Q (.ref p) H'
def spLine (C : Addr) : Sp := fun vs H Q _ => ∃ (l : Addr) (qs : List P3) (ps : List Kh455.Piece), vs = [.ref l] ∧ PcsAt C H l qs ps ∧ ps ≠ [] ∧ Pm.letters ps ≤ 20000 ∧ ps.length ≤ 20000 ∧
  ∀ (H' : Hp) (p : Addr), Same H H' → H p = none → H' p = some (.lst (vn (Kh455.lineText ps))) → Q (.ref p) H'
def spLines (K : PySem.W.Frag) (C : Addr) : Sp := fun vs H Q _ => ∃ (l c : Addr) (qs : List P3) (ps : List Kh455.Piece) (counts : List Nat), vs = [.ref l, .ref c] ∧ PcsAt C H l qs ps ∧ SqL K H c (vn counts) ∧ Pm.Fits counts ps.length ∧ Pm.letters ps ≤ 10000 ∧ ps.length ≤ 10000 ∧
  ∀ (H' : Hp) (p : Addr) (as : List Addr), Same H H' → Lists H' p as ((Kh455.takeLines counts ps).map Kh455.lineText) → Q (.ref p) H'
theorem js_is (j k : Kh455.Joint) : decide (V.str (js j) = V.str (js k)) = decide (j = k) := by
  cases j <;> cases k <;> decide +kernel
theorem fPiece_ch (ca : Addr) (z : Str) : (fPiece ca z).lookup ("characters" : Str) = some (.ref ca) := by
  have e : (("characters" : Str) == ("characters" : Str)) = true := beq_self_eq_true _
  simp only [fPiece, List.lookup, e]
theorem fPiece_jt (ca : Addr) (z : Str) : (fPiece ca z).lookup ("joint" : Str) = some (.str z) := by
  have e : (("joint" : Str) == ("characters" : Str)) = false := by decide +kernel
  have e2 : (("joint" : Str) == ("joint" : Str)) = true := beq_self_eq_true _
  simp only [fPiece, List.lookup, e, e2]
theorem cut_refs (qs : List P3) (i n : Nat) (h : i ≤ qs.length) : cutV (refs3 qs) (some (i : Int)) (some ((i + n : Nat) : Int)) = refs3 ((qs.drop i).take n) := by
  unfold cutV
  rw [HT.sIx_nat, HT.sIx_nat, refs3_len, Nat.min_eq_left h]
  unfold refs3
  rw [List.map_take, List.map_drop]
  apply List.ext_getElem?
  intro k
  rw [List.getElem?_take, List.getElem?_take, List.getElem?_drop]
  by_cases h1 : k < n
  · rw [if_pos h1]
    by_cases h2 : k < min (i + n) qs.length - i
    · rw [if_pos h2]
    · rw [if_neg h2, List.getElem?_eq_none]
      rw [List.length_map]
      omega
  · rw [if_neg h1, if_neg (by omega)]
section
variable {P : Program} {w : World} {K : PySem.W.Frag} {mg : Str → Option Value} {base : Heap} {f : Addr} {fd : FuncData}
theorem scWrite : FnScope ["text", "octets", "code"] ["text"] (defScope sWrite) := ⟨rfl, rfl, rfl, by decide +kernel, rfl, by decide +kernel, by decide +kernel⟩
theorem ok_write (F : Fun K "write_utf8" "write_utf8" sWrite f fd) (DS : Def P w K mg base CX0 2 "write_sequence" ["code"] spWriteSeq) : FnOk P w K mg base CX0 4 f fd ["text"] (spWrite K) := by
  refine F.ok scWrite (fun vs H Q E h => ?_) (fun cdv A outer s H vs Q E hr h => ?_)
  · obtain ⟨a, t, rfl, _⟩ := h
    rfl
  · have hr2 : Room 2 _ := hr.mono (by decide)
    refine ⟨_, pss_cons (ps_set (i := 1) scWrite.nd rfl (Or.inl rfl) (pe_lst pa_nil))
      (pss_cons (ps_for PassesOwn.never rfl (pi_list (pv 0)) (pg_name (i := 2) scWrite.nd rfl (Or.inl rfl))
        (pss_one (ps_expr (pe_bm PySem.F.plainAttrs_list PySem.F.slot_list_extend PySem.F.type_list_extend mt_extend (pv 1) (pa_cons (pe_d DS hr2 (by exact (pa_cons (pv 2) pa_nil))) pa_nil)))))
      (pss_one (ps_ret (pv 1)))), ?_⟩
    obtain ⟨a, t, rfl, hS, hlen, k⟩ := h
    have big : 1000000 ≤ sizeLine := by decide
    refine ⟨Nat.zero_le _, fun po npo => ?_⟩
    have s1 : Same H (upd H po (.lst [])) := (Same.refl H).new npo
    refine ⟨_, rfl, a, rfl, ⟨_, s1.seq hS⟩, for_list (K := K) (a := a) (xs := vn t) (fun i σ H' => ∃ x : Option V, σ = [some (.ref a), some (.ref po), x] ∧ Same H H' ∧ H' po = some (.lst (vn (Kh450.encodeAll (t.take i)))))
      ⟨none, rfl, s1, upd_same⟩ (fun i σ H' _ ⟨_, _, s2, _⟩ => s2.seq hS) ?_ ?_⟩
    · rintro i x σ H' hi ⟨x2, rfl, s2, hpo⟩
      obtain ⟨c, hc, rfl⟩ := vn_of hi
      have more : Kh450.encodeAll (t.take (i + 1)) = Kh450.encodeAll (t.take i) ++ Kh450.encodeUtf8 c := by
        rw [take_more hc]
        unfold Kh450.encodeAll
        rw [List.flatMap_append]
        simp
      have l1 := Pm.encodeAll_len (t.take i)
      have l2 := Pm.encode_len c
      rw [List.length_take] at l1
      refine ⟨_, rfl, .inl ⟨rfl, _, SqL.of hpo⟩, _, rfl, c, rfl, fun H3 p s3 fp hp => ?_⟩
      refine ⟨po, p, _, _, rfl, rfl, s3 _ _ hpo, hp, (by rw [vn_len, vn_len]; omega), ?_⟩
      refine ⟨some (.int c), rfl, (s2.trans s3).own npo, ?_⟩
      rw [upd_same, vn_cat, more]
    · rintro σ H' ⟨x2, rfl, s2, hpo⟩
      rw [vn_len, List.take_length] at hpo
      exact ⟨_, rfl, k H' po s2 npo hpo⟩
theorem scOorI : FnScope ["self"] ["self"] (defScope sOorI) := ⟨rfl, rfl, rfl, by decide +kernel, rfl, by decide +kernel, by decide +kernel⟩
theorem ok_oorI {C : Addr} (F : Fun K "__init__" "OutOfRange.__init__" sOorI f fd) (T : ErrC K C) (no : PySem.W.findIn K (.ref C) "answer" = some none) (B : BaseI P w K mg base) : FnOk P w K mg base CX0 3 f fd ["self"] (spErrI C (-22)) := by
  obtain ⟨CR, fR, mc, fdR, hm, r, c, kp, hb, G⟩ := B.ini
  refine F.ok scOorI (fun vs H Q E h => ?_) (fun cdv A outer s H vs Q E hr h => ⟨_, pss_one (ps_expr (pe_base r c G (hr.mono (by decide)) kp hb pass0 rfl hm (by exact (pa_cons (pv 0) (pa_cons (pe_un un_neg pe_int) pa_nil))))), ?_⟩)
  · obtain ⟨a, rfl, _⟩ := h
    rfl
  · obtain ⟨a, rfl, ha, k⟩ := h
    exact ⟨_, rfl, 22, rfl, a, C, -22, rfl, T, no, ha, k⟩
theorem scCheck : FnScope ["width"] ["width"] (defScope sCheck) := ⟨rfl, rfl, rfl, by decide +kernel, rfl, by decide +kernel, by decide +kernel⟩
theorem ok_check {CO : Addr} (F : Fun K "check_width" "check_width" sCheck f fd) (TE : Err P w K mg base "OutOfRange" CO (-22)) (h1 : IntG mg "LEAST_WIDTH" 10) (h2 : IntG mg "GREATEST_WIDTH" 80) : FnOk P w K mg base (L2.CX P w) 6 f fd ["width"] (spCheck CO) := by
  refine F.okX scCheck (fun vs H Q E h => ?_) (fun cdv A outer s H vs Q E hr h => ?_)
  · obtain ⟨n, rfl, _⟩ := h
    rfl
  · have hr4 : Room 4 _ := hr.mono (by decide)
    refine ⟨_, pss_one (ps_if (pt_not (pt_chain op_le op_le (pe_gi h1) (pv 0) (pe_gi h2))) (pss_one (ps_refuse rfl TE hr4 (takes_of rfl rfl rfl rfl))) pss_nil), ?_⟩
    obtain ⟨n, rfl, kN, kS⟩ := h
    refine le_le_test (lo := 10) (hi := 80) rfl ?_
    by_cases hn : 10 ≤ n ∧ n ≤ 80
    · rw [decide_eq_true hn]
      exact iteF (kS hn)
    · rw [decide_eq_false hn]
      exact iteT (kN hn)
theorem scAnswer : FnScope ["lines", "text", "number", "line", "octets"] ["lines"] (defScope sAnswer) := ⟨rfl, rfl, rfl, by decide +kernel, rfl, by decide +kernel, by decide +kernel⟩
theorem ok_answer (F : Fun K "answer_lines" "answer_lines" sAnswer f fd) (ml : mg "len" = none) (me : mg "enumerate" = none) (hLF : IntG mg "LINE_FEED" 10) (DW : Def P w K mg base CX0 4 "write_utf8" ["text"] (spWrite K)) : FnOk P w K mg base CX0 6 f fd ["lines"] (spAnswer K) := by
  refine F.ok scAnswer (fun vs H Q E h => ?_) (fun cdv A outer s H vs Q E hr h => ?_)
  · obtain ⟨l, as, ls, rfl, _⟩ := h
    rfl
  · have hr4 : Room 4 _ := hr.mono (by decide)
    refine ⟨_, pss_cons (ps_set (i := 1) scAnswer.nd rfl (Or.inl rfl) (pe_lst pa_nil))
      (pss_cons (ps_for PassesOwn.never rfl (pi_enum (by rfl) me (pa_cons (pv 0) pa_nil)) (pg_tup (by rfl) (pgs_cons (pg_name (i := 2) scAnswer.nd rfl (Or.inl rfl)) (pgs_cons (pg_name (i := 3) scAnswer.nd rfl (Or.inl rfl)) pgs_nil)))
        (pss_cons (ps_if (pt_cmpR op_gt (pv 2) pe_int (nomark _)) (pss_one (ps_expr (pe_bm PySem.F.plainAttrs_list PySem.F.slot_list_append PySem.F.type_list_append mt_append (pv 1) (pa_cons (pe_gi hLF) pa_nil)))) pss_nil)
          (pss_one (ps_expr (pe_bm PySem.F.plainAttrs_list PySem.F.slot_list_extend PySem.F.type_list_extend mt_extend (pv 1) (pa_cons (pv 3) pa_nil))))))
      (pss_cons (ps_set (i := 4) scAnswer.nd rfl (Or.inl rfl) (pe_d DW hr4 (by exact (pa_cons (pv 1) pa_nil))))
      (pss_one (ps_ret (pe_op op_cat (pe_lst (pa_cons (pe_callB call_len_seq (by rfl) ml PySem.boot_len (pa_cons (pv 4) pa_nil)) pa_nil)) (pv 4)))))), ?_⟩
    obtain ⟨l, as, ls, rfl, L, hsz, hct, k⟩ := h
    have big : 1000000 ≤ sizeLine := by decide
    refine ⟨Nat.zero_le _, fun pt npt => ?_⟩
    have s1 : Same H (upd H pt (.lst [])) := (Same.refl H).new npt
    have whole := Pm.join_len ls
    have part : ∀ i, i ≤ ls.length → (Pm.joinTo ls i).length ≤ 80000 := fun i hi => by
      rw [Pm.joinTo_take ls i hi]
      have h1 := Pm.join_len (ls.take i)
      have e1 : Pm.sizes ls = Pm.sizes (ls.take i) + Pm.sizes (ls.drop i) := by rw [← Pm.sizes_cat, List.take_append_drop]
      rw [List.length_take] at h1
      omega
    refine ⟨_, rfl, l, _, rfl, s1.seq (SqL.of L.lst), for_it (walk_enum (K := K) (a := l) (xs := as.map V.ref)) (fun i σ H' => ∃ x2 x3 : Option V, σ = [some (.ref l), some (.ref pt), x2, x3, none] ∧ Same H H' ∧ H' pt = some (.lst (vn (Pm.joinTo ls i))))
      ⟨none, none, rfl, s1, upd_same⟩ (fun i σ H' _ ⟨_, _, _, s2, _⟩ => s2.seq (SqL.of L.lst)) ?_ ?_⟩
    · rintro i x σ H' H2 hi ⟨x2, x3, rfl, s2, hpt⟩ ⟨T, u, v, rfl, nT, rfl, eu, ev⟩
      rw [List.length_map] at hi
      have hil : i < ls.length := by
        rw [← L.len]
        exact hi
      have ha := List.getElem?_eq_getElem hi
      have hl := List.getElem?_eq_getElem hil
      have line := L.at_ i _ _ ha hl
      have ev : (as.map V.ref)[i]? = some v := ev
      have eu : some (V.int (i : Nat)) = some u := eu
      rw [List.getElem?_map, ha] at ev
      cases ev
      cases eu
      have hd : ls.getD i [] = ls[i] := by
        rw [List.getD_eq_getElem?_getD, hl]
        rfl
      have step : Pm.joinTo ls (i + 1) = Pm.joinStep i (Pm.joinTo ls i) ls[i] := by
        rw [← hd]
        rfl
      have hp0 := part i (Nat.le_of_lt hil)
      have hp1 := part (i + 1) hil
      rw [step] at hp1
      generalize ls[i] = ln at *
      generalize as[i] = a at *
      have s3 : Same H (upd H' T (.tup [.int (i : Nat), .ref a])) := s2.new nT
      have hpt3 : upd H' T (.tup [.int (i : Nat), .ref a]) pt = some (.lst (vn (Pm.joinTo ls i))) := by
        rw [upd_ne (ne_of_none hpt nT)]
        exact hpt
      have htup : upd H' T (.tup [.int (i : Nat), .ref a]) T = some (.tup [.int (i : Nat), .ref a]) := upd_same
      generalize upd H' T (.tup [.int (i : Nat), .ref a]) = H3 at s3 hpt3 htup
      generalize Pm.joinTo ls i = acc at *
      refine ⟨T, _, rfl, .inl (Rd.of htup), rfl, _, _, rfl, _, _, rfl, rfl, ?_⟩
      refine ⟨_, rfl, _, _, rfl, rfl, _, rfl, ?_⟩
      by_cases h0 : 0 < i
      · have e : Pm.joinStep i acc ln = acc ++ [10] ++ ln := by
          unfold Pm.joinStep
          rw [if_pos h0]
        rw [e] at step hp1
        refine if_true_of (decide_eq_true (by omega)) ?_
        refine ⟨_, rfl, .inl ⟨rfl, _, SqL.of hpt3⟩, pt, _, _, rfl, rfl, hpt3, (by rw [vn_len]; omega), ?_⟩
        have s4 : Same H (upd H3 pt (.lst (vn acc ++ [.int 10]))) := s3.own npt
        have hpt4 : upd H3 pt (.lst (vn acc ++ [.int 10])) pt = some (.lst (vn (acc ++ [10]))) := by
          rw [upd_same]
          exact congrArg (fun q => some (HO.lst q)) (vn_snoc acc 10)
        generalize upd H3 pt (.lst (vn acc ++ [.int 10])) = H4 at s4 hpt4
        refine ⟨_, rfl, .inl ⟨rfl, _, SqL.of hpt4⟩, _, rfl, pt, a, _, _, rfl, rfl, hpt4, s4 _ _ line, (by rw [vn_len, vn_len, ← List.length_append]; omega), ?_⟩
        refine ⟨_, _, rfl, s4.own npt, ?_⟩
        rw [upd_same, vn_cat, step]
      · have e : Pm.joinStep i acc ln = acc ++ ln := by
          unfold Pm.joinStep
          rw [if_neg h0]
        rw [e] at step hp1
        refine if_false_of (decide_eq_false (by omega)) ?_
        refine ⟨_, rfl, .inl ⟨rfl, _, SqL.of hpt3⟩, _, rfl, pt, a, _, _, rfl, rfl, hpt3, s3 _ _ line, (by rw [vn_len, vn_len, ← List.length_append]; omega), ?_⟩
        refine ⟨_, _, rfl, s3.own npt, ?_⟩
        rw [upd_same, vn_cat, step]
    · rintro σ H' ⟨x2, x3, rfl, s2, hpt⟩
      rw [List.length_map, L.len, Pm.joinTo_take ls _ (Nat.le_refl _), List.take_length] at hpt
      generalize Kh450.joinTexts [10] ls = t at *
      refine ⟨_, rfl, pt, t, rfl, SqL.of hpt, (by omega), fun H3 p s3 fp hp => ?_⟩
      have len_ := Pm.encodeAll_len t
      refine ⟨_, rfl, p, _, rfl, .inl (SqL.of hp), (by show 1 ≤ sizeLine; decide), fun p5 np5 => ⟨_, rfl, ?_⟩⟩
      have hp5 : upd H3 p5 (.lst [.int (vn (Kh450.encodeAll t)).length]) p = some (.lst (vn (Kh450.encodeAll t))) := by
        rw [upd_ne (ne_of_none hp np5)]
        exact hp
      refine ⟨p5, p, _, _, rfl, rfl, upd_same, hp5, (by rw [vn_len]; simp; omega), fun p6 np6 => k _ p6 (((s2.trans s3).new np5).new np6) ?_⟩
      rw [upd_same, vn_len]
      rfl
theorem scLine : FnScope ["pieces", "text", "piece", "last"] ["pieces"] (defScope sLine) := ⟨rfl, rfl, rfl, by decide +kernel, rfl, by decide +kernel, by decide +kernel⟩
theorem ok_line {C : Addr} (F : Fun K "line_text" "line_text" sLine f fd) (T : TPc K mg C) (hB : IntG mg "BLANK" 32) : FnOk P w K mg base CX0 2 f fd ["pieces"] (spLine C) := by
  refine F.ok scLine (fun vs H Q E h => ?_) (fun cdv A outer s H vs Q E hr h => ?_)
  · obtain ⟨l, qs, ps, rfl, _⟩ := h
    rfl
  · refine ⟨_, pss_cons (ps_set (i := 1) scLine.nd rfl (Or.inl rfl) (pe_lst pa_nil))
      (pss_cons (ps_for PassesOwn.never rfl (pi_list (pe_slice sl_list (pv 0) po_none (po_some (pe_un un_neg pe_int)))) (pg_name (i := 2) scLine.nd rfl (Or.inl rfl))
        (pss_cons (ps_expr (pe_bm PySem.F.plainAttrs_list PySem.F.slot_list_extend PySem.F.type_list_extend mt_extend (pv 1) (pa_cons (pe_fld (pv 2) rfl) pa_nil)))
          (pss_one (ps_if (pt_cmpR op_eq (pe_fld (pv 2) rfl) (pe_gs T.sj) (nomark _)) (pss_one (ps_expr (pe_bm PySem.F.plainAttrs_list PySem.F.slot_list_append PySem.F.type_list_append mt_append (pv 1) (pa_cons (pe_gi hB) pa_nil)))) pss_nil))))
      (pss_cons (ps_set (i := 3) scLine.nd rfl (Or.inl rfl) (pe_ix ix_list (pv 0) (pe_un un_neg pe_int) (fun _ _ => rfl)))
      (pss_cons (ps_expr (pe_bm PySem.F.plainAttrs_list PySem.F.slot_list_extend PySem.F.type_list_extend mt_extend (pv 1) (pa_cons (pe_fld (pv 3) rfl) pa_nil)))
      (pss_cons (ps_if (pt_cmpR op_eq (pe_fld (pv 3) rfl) (pe_gs T.hj) (nomark _)) (pss_one (ps_expr (pe_bm PySem.F.plainAttrs_list PySem.F.slot_list_append PySem.F.type_list_append mt_append (pv 1) (pa_cons (pe_gi T.hy) pa_nil)))) pss_nil)
      (pss_one (ps_ret (pv 1))))))), ?_⟩
    obtain ⟨l, qs, ps, rfl, hP, hne, hlet, hct, k⟩ := h
    have big : 1000000 ≤ sizeLine := by decide
    obtain ⟨fr, la, hfl⟩ : ∃ fr la, ps = fr ++ [la] := ⟨ps.dropLast, ps.getLast hne, (List.dropLast_concat_getLast hne).symm⟩
    subst hfl
    obtain ⟨qf, ql, hqf⟩ : ∃ qf ql, qs = qf ++ [ql] := by
      have ne : qs ≠ [] := fun z => by
        have := hP.len
        rw [z] at this
        simp at this
      exact ⟨qs.dropLast, qs.getLast ne, (List.dropLast_concat_getLast ne).symm⟩
    subst hqf
    have hlen : qf.length = fr.length := by
      have := hP.len
      simpa using this
    have due := Pm.line_front fr la
    have wlen := Pm.line_len (fr ++ [la])
    have flen : ∀ i, ((fr.take i).flatMap Pm.mid).length ≤ 40000 := fun i => by
      have h1 := Pm.mid_sum (fr.take i)
      have h2 : Pm.letters (fr ++ [la]) = Pm.letters (fr.take i) + Pm.letters (fr.drop i ++ [la]) := by
        rw [← Pm.letters_cat, ← List.append_assoc, List.take_append_drop]
      rw [List.length_take] at h1
      simp only [List.length_append, List.length_cons, List.length_nil] at hct
      omega
    refine ⟨Nat.zero_le _, fun pt npt => ?_⟩
    have s1 : Same H (upd H pt (.lst [])) := (Same.refl H).new npt
    have hpt : upd H pt (.lst []) pt = some (.lst (vn [])) := upd_same
    generalize upd H pt (.lst []) = H1 at s1 hpt
    refine ⟨_, rfl, _, rfl, _, rfl, l, _, rfl, s1.seq (SqL.of hP.lst), fun c nc => ?_⟩
    have hcut : cutV (refs3 (qf ++ [ql])) none (some (-1)) = refs3 qf := by
      rw [cut_front]
      have e : refs3 (qf ++ [ql]) = refs3 qf ++ [.ref ql.1] := List.map_append
      rw [e]
      exact List.dropLast_concat
    have s2 : Same H (upd H1 c (.lst (cutV (refs3 (qf ++ [ql])) none (some (-1))))) := s1.new nc
    have hc : upd H1 c (.lst (cutV (refs3 (qf ++ [ql])) none (some (-1)))) c = some (.lst (refs3 qf)) := by
      rw [upd_same, hcut]
    have hpt2 : upd H1 c (.lst (cutV (refs3 (qf ++ [ql])) none (some (-1)))) pt = some (.lst (vn [])) := by
      rw [upd_ne (ne_of_none hpt nc)]
      exact hpt
    have cne : c ≠ pt := (ne_of_none hpt nc).symm
    generalize upd H1 c (.lst (cutV (refs3 (qf ++ [ql])) none (some (-1)))) = H2 at s2 hc hpt2
    refine ⟨c, rfl, ⟨_, SqL.of hc⟩, for_list (K := K) (a := c) (xs := refs3 qf) (fun i σ H' => ∃ x2 : Option V, σ = [some (.ref l), some (.ref pt), x2, none] ∧ Same H H' ∧ H' c = some (.lst (refs3 qf)) ∧ H' pt = some (.lst (vn ((fr.take i).flatMap Pm.mid))))
      ⟨none, rfl, s2, hc, hpt2⟩ (fun i σ H' _ ⟨_, _, _, h, _⟩ => SqL.of h) ?_ ?_⟩
    · rintro i x σ H' hi ⟨x2, rfl, s3, hc', hpt'⟩
      rw [List.getElem?_map] at hi
      cases eq : qf[i]? with
      | none =>
        rw [eq] at hi
        cases hi
      | some q =>
        rw [eq] at hi
        cases hi
        have hiq : i < qf.length := (List.getElem?_eq_some_iff.mp eq).1
        have hif : i < fr.length := by omega
        have hp := List.getElem?_eq_getElem hif
        have pat := hP.at_ i q fr[i] (by rw [List.getElem?_append_left hiq]; exact eq) (by rw [List.getElem?_append_left hif]; exact hp)
        have takes : (fr.take (i + 1)).flatMap Pm.mid = (fr.take i).flatMap Pm.mid ++ Pm.mid fr[i] := by
          rw [take_more hp, List.flatMap_append]
          simp
        have f1 := flen i
        have f2 := flen (i + 1)
        rw [takes, List.length_append] at f2
        generalize fr[i] = p at *
        generalize (fr.take i).flatMap Pm.mid = acc at *
        have pat3 := pat.same s3
        have lm : p.content.length ≤ (Pm.mid p).length := by
          unfold Pm.mid
          rw [List.length_append]
          exact Nat.le_add_right _ _
        refine ⟨_, rfl, .inl ⟨rfl, _, SqL.of hpt'⟩, _, rfl, q.1, C, q.2.1, _, _, rfl, pat3.ins, T.cl, T.nC, fPiece_ch _ _, pt, q.2.2, _, _, rfl, rfl, hpt', pat3.ch, (by rw [vn_len, vn_len]; omega), ?_⟩
        rw [vn_cat]
        have s4 : Same H (upd H' pt (.lst (vn (acc ++ p.content)))) := s3.own npt
        have hpt4 : upd H' pt (.lst (vn (acc ++ p.content))) pt = some (.lst (vn (acc ++ p.content))) := upd_same
        have hc4 : upd H' pt (.lst (vn (acc ++ p.content))) c = some (.lst (refs3 qf)) := by
          rw [upd_ne cne]
          exact hc'
        generalize upd H' pt (.lst (vn (acc ++ p.content))) = H4 at s4 hpt4 hc4
        have pat4 := pat.same s4
        refine ⟨_, rfl, q.1, C, q.2.1, _, _, rfl, pat4.ins, T.cl, T.nJ, fPiece_jt _ _, rfl, _, rfl, ?_⟩
        by_cases hj : p.joint = .space
        · have em : Pm.mid p = p.content ++ [32] := by
            unfold Pm.mid
            rw [if_pos hj]
          refine if_true_of ((js_is p.joint .space).trans (decide_eq_true hj)) ?_
          refine ⟨_, rfl, .inl ⟨rfl, _, SqL.of hpt4⟩, pt, _, _, rfl, rfl, hpt4, (by rw [vn_len, List.length_append]; omega), ?_⟩
          refine ⟨_, rfl, s4.own npt, ?_, ?_⟩
          · rw [upd_ne cne]
            exact hc4
          · rw [upd_same, takes, em, ← List.append_assoc]
            exact congrArg (fun q => some (HO.lst q)) (vn_snoc (acc ++ p.content) 32)
        · have em : Pm.mid p = p.content := by
            unfold Pm.mid
            rw [if_neg hj, List.append_nil]
          refine if_false_of ((js_is p.joint .space).trans (decide_eq_false hj)) ⟨_, rfl, s4, hc4, ?_⟩
          rw [takes, em]
          exact hpt4
    · rintro σ H' ⟨x2, rfl, s3, hc', hpt'⟩
      rw [refs3_len, hlen, List.take_length] at hpt'
      have pat := hP.at_ fr.length ql la (by rw [← hlen]; simp) (by simp)
      have f1 := flen fr.length
      rw [List.take_length] at f1
      rw [due, List.length_append] at wlen
      simp only [List.length_append, List.length_cons, List.length_nil] at wlen hct
      have e : refs3 (qf ++ [ql]) = refs3 qf ++ [.ref ql.1] := List.map_append
      refine ⟨_, rfl, _, rfl, l, _, -1, .ref ql.1, rfl, rfl, s3.seq (SqL.of hP.lst), ?_, ?_⟩
      · rw [e]
        exact atI_last _ _
      generalize fr.flatMap Pm.mid = acc at *
      have pat3 := pat.same s3
      refine ⟨_, rfl, .inl ⟨rfl, _, SqL.of hpt'⟩, _, rfl, ql.1, C, ql.2.1, _, _, rfl, pat3.ins, T.cl, T.nC, fPiece_ch _ _, pt, ql.2.2, _, _, rfl, rfl, hpt', pat3.ch, (by rw [vn_len, vn_len]; omega), ?_⟩
      rw [vn_cat]
      have s4 : Same H (upd H' pt (.lst (vn (acc ++ la.content)))) := s3.own npt
      have hpt4 : upd H' pt (.lst (vn (acc ++ la.content))) pt = some (.lst (vn (acc ++ la.content))) := upd_same
      generalize upd H' pt (.lst (vn (acc ++ la.content))) = H4 at s4 hpt4
      have pat4 := pat.same s4
      refine ⟨_, rfl, ql.1, C, ql.2.1, _, _, rfl, pat4.ins, T.cl, T.nJ, fPiece_jt _ _, rfl, _, rfl, ?_⟩
      by_cases hj : la.joint = .hyphen
      · rw [if_pos hj] at due
        refine if_true_of ((js_is la.joint .hyphen).trans (decide_eq_true hj)) ?_
        refine ⟨_, rfl, .inl ⟨rfl, _, SqL.of hpt4⟩, pt, _, _, rfl, rfl, hpt4, (by rw [vn_len, List.length_append]; omega), ?_⟩
        refine ⟨_, rfl, k _ pt (s4.own npt) npt ?_⟩
        rw [upd_same, due, ← List.append_assoc]
        exact congrArg (fun q => some (HO.lst q)) (vn_snoc (acc ++ la.content) 45)
      · rw [if_neg hj, List.append_nil] at due
        refine if_false_of ((js_is la.joint .hyphen).trans (decide_eq_false hj)) ⟨_, rfl, k _ pt s4 npt ?_⟩
        rw [due]
        exact hpt4
end
end Pl

namespace Pm
/-- what a line in its width, a page in its height costs -/
def fillC (room size : Nat) (last : Bool) (ex : Nat) : Nat := if room < size then ex * (size - room) else if last = true then 0 else (room - size) ^ 2
theorem lCost_fill (n len : Nat) (j : Kh455.Joint) (last : Bool) : lCost n len j last = fillC n len last 10000 + hyC j := by
  unfold lCost fillC
  split
  · rfl
  · split <;> simp_all
end Pm
namespace Pl
open PySem PySem.Spec PyProof.Rows L2
def spFill : Sp := fun vs H Q _ => ∃ (n len : Nat) (last : Bool) (ex : Nat), vs = [.int n, .int len, .bl last, .int ex] ∧ n ≤ 100000 ∧ len ≤ 100000 ∧ ex ≤ 1000000 ∧ Q (.int (Pm.fillC n len last ex)) H
theorem allowedGo_cons (w : Nat) (p : Kh455.Piece) (r : List Kh455.Piece) (len : Nat) (b : Bool) : Pm.allowedGo w (p :: r) len b = if b = false ∧ w < Pm.shownBy len p then [] else Pm.shownBy len p :: Pm.allowedGo w r (Pm.lenBy len p) false := rfl
def spLineCost : Sp := fun vs H Q _ => ∃ (n len : Nat) (j : Kh455.Joint) (last : Bool), vs = [.int n, .int len, .str (js j), .bl last] ∧ n ≤ 100000 ∧ len ≤ 100000 ∧ Q (.int (Pm.lCost n len j last)) H
def spAllowed (C : Addr) : Sp := fun vs H Q _ => ∃ (n : Nat) (l : Addr) (st : Nat) (qs : List P3) (ps : List Kh455.Piece), vs = [.int n, .ref l, .int st] ∧ PcsAt C H l qs ps ∧ st ≤ ps.length ∧ Pm.letters ps ≤ 10000 ∧ ps.length ≤ 10000 ∧
  ∀ (H' : Hp) (p : Addr), Same H H' → H p = none → H' p = some (.lst (vn (Pm.allowed n (ps.drop st)))) → Q (.ref p) H'
/-- a part of such a list -/
theorem PcsAt.part {C l p : Addr} {H H' : Hp} {qs : List P3} {ps : List Kh455.Piece} (x : PcsAt C H l qs ps) (s : Same H H') (i n : Nat) (hp : H' p = some (.lst (refs3 ((qs.drop i).take n)))) : PcsAt C H' p ((qs.drop i).take n) ((ps.drop i).take n) := by
  refine ⟨hp, ?_, fun k q v e1 e2 => ?_⟩
  · rw [List.length_take, List.length_take, List.length_drop, List.length_drop, x.len]
  · rw [List.getElem?_take] at e1 e2
    by_cases h : k < n
    · rw [if_pos h, List.getElem?_drop] at e1 e2
      exact (x.at_ _ q v e1 e2).same s
    · rw [if_neg h] at e1
      cases e1
section
variable {P : Program} {w : World} {K : PySem.W.Frag} {mg : Str → Option Value} {base : Heap} {f : Addr} {fd : FuncData}
theorem scLines : FnScope ["pieces", "counts", "lines", "start", "count"] ["pieces", "counts"] (defScope sLinesOf) := ⟨rfl, rfl, rfl, by decide +kernel, rfl, by decide +kernel, by decide +kernel⟩
theorem ok_lines {C : Addr} (F : Fun K "lines_of" "lines_of" sLinesOf f fd) (DL : Def P w K mg base CX0 2 "line_text" ["pieces"] (spLine C)) : FnOk P w K mg base CX0 4 f fd ["pieces", "counts"] (spLines K C) := by
  refine F.ok scLines (fun vs H Q E h => ?_) (fun cdv A outer s H vs Q E hr h => ?_)
  · obtain ⟨l, c, qs, ps, counts, rfl, _⟩ := h
    rfl
  · have hr2 : Room 2 _ := hr.mono (by decide)
    refine ⟨_, pss_cons (ps_set (i := 2) scLines.nd rfl (Or.inl rfl) (pe_lst pa_nil))
      (pss_cons (ps_set (i := 3) scLines.nd rfl (Or.inl rfl) pe_int)
      (pss_cons (ps_for PassesOwn.never rfl (pi_list (pv 1)) (pg_name (i := 4) scLines.nd rfl (Or.inl rfl))
        (pss_cons (ps_expr (pe_bm PySem.F.plainAttrs_list PySem.F.slot_list_append PySem.F.type_list_append mt_append (pv 2)
            (pa_cons (pe_d DL hr2 (by exact (pa_cons (pe_slice sl_list (pv 0) (po_some (pv 3)) (po_some (pe_op op_add (pv 3) (pv 4)))) pa_nil))) pa_nil)))
          (pss_one (ps_aug (i := 3) scLines.nd rfl (.inl rfl) (pv 4) ip_add))))
      (pss_one (ps_ret (pv 2))))), ?_⟩
    obtain ⟨l, c, qs, ps, counts, rfl, hP, hS, hfit, hlet, hct, k⟩ := h
    have big : 1000000 ≤ sizeLine := by decide
    have few := Pm.fits_len _ _ hfit
    refine ⟨Nat.zero_le _, fun m nm => ?_⟩
    have s1 : Same H (upd H m (.lst [])) := (Same.refl H).new nm
    refine ⟨_, rfl, c, rfl, ⟨_, s1.seq hS⟩, for_list (K := K) (a := c) (xs := vn counts)
      (fun i σ H' => ∃ (as : List Addr) (done : List (List Nat)) (st : Nat) (x : Option V), σ = [some (.ref l), some (.ref c), some (.ref m), some (.int st), x] ∧ Same H H' ∧ Lists H' m as done ∧ m ∉ as ∧ st ≤ ps.length ∧ done.length = i ∧ Pm.Fits (counts.drop i) (ps.length - st) ∧
        (Kh455.takeLines counts ps).map Kh455.lineText = done ++ (Kh455.takeLines (counts.drop i) (ps.drop st)).map Kh455.lineText)
      ⟨[], [], 0, none, rfl, s1, ⟨upd_same, rfl, fun i a w e => by simp at e⟩, List.not_mem_nil, Nat.zero_le _, rfl, hfit, rfl⟩ (fun i σ H' _ ⟨_, _, _, _, _, s2, _⟩ => s2.seq hS) ?_ ?_⟩
    · rintro i x σ H' hi ⟨as, done, st, x4, rfl, s2, L, nla, hst, hdl, hf, hdue⟩
      obtain ⟨n, hn, rfl⟩ := vn_of hi
      have hil : i < counts.length := (List.getElem?_eq_some_iff.mp hn).1
      have hdrop : counts.drop i = n :: counts.drop (i + 1) := by
        obtain ⟨h1, h2⟩ := List.getElem?_eq_some_iff.mp hn
        rw [← h2]
        exact List.drop_eq_getElem_cons h1
      rw [hdrop] at hf hdue
      obtain ⟨n1, n2, hf'⟩ := hf
      have hdue2 : (Kh455.takeLines (n :: counts.drop (i + 1)) (ps.drop st)).map Kh455.lineText = Kh455.lineText ((ps.drop st).take n) :: (Kh455.takeLines (counts.drop (i + 1)) (ps.drop (st + n))).map Kh455.lineText := by
        show _ :: _ = _
        rw [List.drop_drop]
      rw [hdue2] at hdue
      have place : (st : Int) + (n : Int) = ((st + n : Nat) : Int) := rfl
      refine ⟨_, rfl, .inl ⟨rfl, _, SqL.of L.lst⟩, _, rfl, _, rfl, _, rfl, _, rfl, _, rfl, _, _, rfl, rfl, _, rfl, l, _, rfl, s2.seq (SqL.of hP.lst), fun p np => ?_⟩
      have hcut : cutV (refs3 qs) (some (st : Int)) (some ((st : Int) + (n : Int))) = refs3 ((qs.drop st).take n) := by
        rw [place]
        exact cut_refs qs st n (by rw [hP.len]; exact hst)
      have s3 : Same H' (upd H' p (.lst (cutV (refs3 qs) (some (st : Int)) (some ((st : Int) + (n : Int)))))) := (Same.refl H').new np
      have hp : upd H' p (.lst (cutV (refs3 qs) (some (st : Int)) (some ((st : Int) + (n : Int))))) p = some (.lst (refs3 ((qs.drop st).take n))) := by
        rw [upd_same, hcut]
      generalize upd H' p (.lst (cutV (refs3 qs) (some (st : Int)) (some ((st : Int) + (n : Int))))) = H3 at s3 hp
      have part := hP.part (s2.trans s3) st n hp
      refine ⟨p, _, _, rfl, part, ?_, Nat.le_trans (Pm.letters_take_drop ps st n) (by omega), ?_, fun H4 t s4 ft ht => ?_⟩
      · intro z
        have := congrArg List.length z
        rw [List.length_take, List.length_drop, List.length_nil] at this
        omega
      · rw [List.length_take, List.length_drop]
        omega
      · have L4 := (L.same s3).same s4
        have tm : t ≠ m := fun z => by
          have := s3 _ _ L.lst
          rw [← z, ft] at this
          cases this
        refine ⟨m, _, _, rfl, rfl, L4.lst, (by rw [List.length_map, L.len]; omega), ?_⟩
        refine ⟨_, rfl, _, rfl, _, _, rfl, rfl, as ++ [t], done ++ [Kh455.lineText ((ps.drop st).take n)], st + n, some (.int n), rfl, ((s2.trans s3).trans s4).own nm, L4.more ht tm nla, fun z => ?_, (by omega), (by simp [hdl]), ?_, ?_⟩
        · rcases List.mem_append.mp z with z | z
          · exact nla z
          · exact tm (List.mem_singleton.mp z).symm
        · rw [Nat.sub_add_eq]
          exact hf'
        · rw [hdue, List.append_assoc]
          rfl
    · rintro σ H' ⟨as, done, st, x4, rfl, s2, L, nla, hst, hdl, hf, hdue⟩
      rw [vn_len] at hdue
      have e0 : counts.drop counts.length = [] := List.drop_eq_nil_of_le (Nat.le_refl _)
      rw [e0] at hdue
      have hdue : (Kh455.takeLines counts ps).map Kh455.lineText = done := by
        rw [hdue]
        show done ++ [] = done
        rw [List.append_nil]
      rw [← hdue] at L
      exact ⟨_, rfl, k H' m as s2 L⟩
theorem cut_refs_from (qs : List P3) (i : Nat) (h : i ≤ qs.length) : cutV (refs3 qs) (some (i : Int)) none = refs3 (qs.drop i) := by
  unfold cutV
  rw [HT.sIx_nat, HT.sIx_none, refs3_len, Nat.min_eq_left h]
  unfold refs3
  rw [List.map_drop]
  apply List.take_of_length_le
  rw [List.length_drop, List.length_map]
  exact Nat.le_refl _
theorem scAllowed : FnScope ["width", "pieces", "start", "lengths", "length", "piece", "shown"] ["width", "pieces", "start"] (defScope sAllowed) := ⟨rfl, rfl, rfl, by decide +kernel, rfl, by decide +kernel, by decide +kernel⟩
theorem ok_allowed {C : Addr} (F : Fun K "allowed_lengths" "allowed_lengths" sAllowed f fd) (T : TPc K mg C) (ml : mg "len" = none) : FnOk P w K mg base CX0 2 f fd ["width", "pieces", "start"] (spAllowed C) := by
  refine F.ok scAllowed (fun vs H Q E h => ?_) (fun cdv A outer s H vs Q E hr h => ?_)
  · obtain ⟨n, l, st, qs, ps, rfl, _⟩ := h
    rfl
  · refine ⟨_, pss_cons (ps_set (i := 3) scAllowed.nd rfl (Or.inl rfl) (pe_lst pa_nil))
      (pss_cons (ps_set (i := 4) scAllowed.nd rfl (Or.inl rfl) pe_int)
      (pss_cons (ps_for PassesOwn.never rfl (pi_list (pe_slice sl_list (pv 1) (po_some (pv 2)) po_none)) (pg_name (i := 5) scAllowed.nd rfl (Or.inl rfl))
        (pss_cons (ps_aug (i := 4) scAllowed.nd rfl (.inl rfl) (pe_callB call_len_seq (by rfl) ml PySem.boot_len (pa_cons (pe_fld (pv 5) rfl) pa_nil)) ip_add)
        (pss_cons (ps_set (i := 6) scAllowed.nd rfl (Or.inl rfl) (pe_ifExp (pt_cmpR op_eq (pe_fld (pv 5) rfl) (pe_gs T.hj) (nomark _)) (pe_op op_add (pv 4) pe_int) (pv 4)))
        (pss_cons (ps_if (PW.pt (pw_and (pt_truth (pv 3) (by intro _; rfl)) (pw_and1 (pt_cmpR op_gt (pv 6) (pv 0) (nomark _))))) (pss_one ps_break) pss_nil)
        (pss_cons (ps_expr (pe_bm PySem.F.plainAttrs_list PySem.F.slot_list_append PySem.F.type_list_append mt_append (pv 3) (pa_cons (pv 6) pa_nil)))
        (pss_one (ps_if (pt_cmpR op_eq (pe_fld (pv 5) rfl) (pe_gs T.sj) (nomark _)) (pss_one (ps_aug (i := 4) scAllowed.nd rfl (.inl rfl) pe_int ip_add)) pss_nil)))))))
      (pss_one (ps_ret (pv 3))))), ?_⟩
    obtain ⟨n, l, st, qs, ps, rfl, hP, hst, hlet, hct, k⟩ := h
    have big : 1000000 ≤ sizeLine := by decide
    refine ⟨Nat.zero_le _, fun m nm => ?_⟩
    have s1 : Same H (upd H m (.lst [])) := (Same.refl H).new nm
    have hm1 : upd H m (.lst []) m = some (.lst (vn [])) := upd_same
    generalize upd H m (.lst []) = H1 at s1 hm1
    refine ⟨_, rfl, _, rfl, _, rfl, l, _, rfl, s1.seq (SqL.of hP.lst), fun p np => ?_⟩
    have s2 : Same H (upd H1 p (.lst (cutV (refs3 qs) (some (st : Int)) none))) := s1.new np
    have hp2 : upd H1 p (.lst (cutV (refs3 qs) (some (st : Int)) none)) p = some (.lst (refs3 (qs.drop st))) := by
      rw [upd_same, cut_refs_from qs st (by rw [hP.len]; exact hst)]
    have hm2 : upd H1 p (.lst (cutV (refs3 qs) (some (st : Int)) none)) m = some (.lst (vn [])) := by
      rw [upd_ne (ne_of_none hm1 np)]
      exact hm1
    have pm : p ≠ m := (ne_of_none hm1 np).symm
    generalize upd H1 p (.lst (cutV (refs3 qs) (some (st : Int)) none)) = H2 at s2 hp2 hm2
    have hat : ∀ (i : Nat) (q : P3) (v : Kh455.Piece), (qs.drop st)[i]? = some q → (ps.drop st)[i]? = some v → PieceAt C H q v := fun i q v e1 e2 => by
      rw [List.getElem?_drop] at e1 e2
      exact hP.at_ _ q v e1 e2
    have hlen : (qs.drop st).length = (ps.drop st).length := by
      rw [List.length_drop, List.length_drop, hP.len]
    have hlet' : Pm.letters (ps.drop st) ≤ 10000 := by
      have e : Pm.letters ps = Pm.letters (ps.take st) + Pm.letters (ps.drop st) := by rw [← Pm.letters_cat, List.take_append_drop]
      omega
    have hct' : (ps.drop st).length ≤ 10000 := by
      rw [List.length_drop]
      omega
    generalize ps.drop st = pd at *
    generalize qs.drop st = qd at *
    refine ⟨p, rfl, ⟨_, SqL.of hp2⟩, for_list (K := K) (a := p) (xs := refs3 qd)
      (fun i σ H' => ∃ (acc : List Nat) (len : Nat) (x5 x6 : Option V), σ = [some (.int n), some (.ref l), some (.int st), some (.ref m), some (.int len), x5, x6] ∧ Same H H' ∧ H' m = some (.lst (vn acc)) ∧ H' p = some (.lst (refs3 qd)) ∧ acc.length ≤ i ∧ i ≤ pd.length ∧
        len ≤ Pm.letters (pd.take i) + i ∧ Pm.allowed n pd = acc ++ Pm.allowedGo n (pd.drop i) len acc.isEmpty)
      ⟨[], 0, none, none, rfl, s2, hm2, hp2, Nat.le_refl _, Nat.zero_le _, Nat.zero_le _, rfl⟩ (fun i σ H' _ ⟨_, _, _, _, _, _, _, h, _⟩ => SqL.of h) ?_ ?_⟩
    · rintro i x σ H' hi ⟨acc, len, x5, x6, rfl, s3, hm3, hp3, hacc, hip, hln, hdue⟩
      rw [List.getElem?_map] at hi
      cases eq : qd[i]? with
      | none =>
        rw [eq] at hi
        cases hi
      | some q =>
        rw [eq] at hi
        cases hi
        have hif : i < pd.length := by
          rw [← hlen]
          exact (List.getElem?_eq_some_iff.mp eq).1
        have hp := List.getElem?_eq_getElem hif
        have pat := (hat i q _ eq hp).same s3
        have hdrop : pd.drop i = pd[i] :: pd.drop (i + 1) := List.drop_eq_getElem_cons hif
        have hlet2 : Pm.letters (pd.take (i + 1)) = Pm.letters (pd.take i) + pd[i].content.length := by
          rw [take_more hp, Pm.letters_cat]
          simp [Pm.letters]
        have hl3 : Pm.letters (pd.take (i + 1)) ≤ Pm.letters pd := by
          have := Pm.letters_take_drop pd 0 (i + 1)
          rw [List.drop_zero] at this
          exact this
        rw [hdrop] at hdue
        generalize pd[i] = v at *
        -- length += len(piece.characters)
        refine ⟨_, rfl, _, rfl, q.1, C, q.2.1, _, _, rfl, pat.ins, T.cl, T.nC, fPiece_ch _ _, q.2.2, _, rfl, .inl (SqL.of pat.ch), (len : Int), (v.content.length : Int), rfl, congrArg (fun z : Nat => V.int z) (vn_len _), ?_⟩
        -- shown
        refine ⟨_, rfl, q.1, C, q.2.1, _, _, rfl, pat.ins, T.cl, T.nJ, fPiece_jt _ _, rfl, _, rfl, ?_⟩
        have shown : ∀ Q' : VK, Q' (.int (Pm.shownBy len v : Nat)) H' → (if decide (V.str (js v.joint) = V.str "hyphen") = true then tOp (rI0 fun i j => .int (i + j)) (tVar 4) (tC (.int 1)) [some (.int n), some (.ref l), some (.int st), some (.ref m), some (.int (len + v.content.length : Nat)), some (.ref q.1), x6] H' Q'
            else tVar 4 [some (.int n), some (.ref l), some (.int st), some (.ref m), some (.int (len + v.content.length : Nat)), some (.ref q.1), x6] H' Q') := fun Q' hq => by
          by_cases hj : v.joint = .hyphen
          · have e : Pm.shownBy len v = len + v.content.length + 1 := by
              unfold Pm.shownBy
              rw [if_pos hj]
            rw [e] at hq
            exact if_true_of ((js_is v.joint .hyphen).trans (decide_eq_true hj)) ⟨_, rfl, _, _, rfl, rfl, hq⟩
          · have e : Pm.shownBy len v = len + v.content.length := by
              unfold Pm.shownBy
              rw [if_neg hj]
              rfl
            rw [e] at hq
            exact if_false_of ((js_is v.joint .hyphen).trans (decide_eq_false hj)) ⟨_, rfl, hq⟩
        refine shown _ ?_
        have lenE : Pm.lenBy len v = len + v.content.length + (if v.joint = .space then 1 else 0) := rfl
        -- what follows when the line is allowed
        have goes : ∀ (D : Ends), Pm.allowed n pd = acc ++ (Pm.shownBy len v :: Pm.allowedGo n (pd.drop (i + 1)) (Pm.lenBy len v) false) →
            (∀ σ' H3, (∃ (acc : List Nat) (len : Nat) (x5 x6 : Option V), σ' = [some (.int n), some (.ref l), some (.int st), some (.ref m), some (.int len), x5, x6] ∧ Same H H3 ∧ H3 m = some (.lst (vn acc)) ∧ H3 p = some (.lst (refs3 qd)) ∧ acc.length ≤ i + 1 ∧ i + 1 ≤ pd.length ∧
              len ≤ Pm.letters (pd.take (i + 1)) + (i + 1) ∧ Pm.allowed n pd = acc ++ Pm.allowedGo n (pd.drop (i + 1)) len acc.isEmpty) → D.nx σ' H3) →
            tSeq (tDrop (tBM K "list" rAppend (tVar 3) (tCons (tVar 6) tNil))) (tIfS (tTest (tOp rEq (tFld K (tVar 5) "joint") (tC (.str "space")))) (tAug 4 (tC (.int 1)) (ipI fun i j => i + j)) tNext) D
              [some (.int n), some (.ref l), some (.int st), some (.ref m), some (.int (len + v.content.length : Nat)), some (.ref q.1), some (.int (Pm.shownBy len v : Nat))] H' := fun D hnew hk => by
          refine ⟨_, rfl, .inl ⟨rfl, _, SqL.of hm3⟩, _, rfl, m, _, _, rfl, rfl, hm3, (by rw [vn_len]; omega), ?_⟩
          have s4 : Same H (upd H' m (.lst (vn acc ++ [.int (Pm.shownBy len v : Nat)]))) := s3.own nm
          have hm4 : upd H' m (.lst (vn acc ++ [.int (Pm.shownBy len v : Nat)])) m = some (.lst (vn (acc ++ [Pm.shownBy len v]))) := by
            rw [upd_same, vn_snoc]
          have hp4 : upd H' m (.lst (vn acc ++ [.int (Pm.shownBy len v : Nat)])) p = some (.lst (refs3 qd)) := by
            rw [upd_ne pm]
            exact hp3
          generalize upd H' m (.lst (vn acc ++ [.int (Pm.shownBy len v : Nat)])) = H4 at s4 hm4 hp4
          have pat4 := (hat i q v eq hp).same s4
          have ne : (acc ++ [Pm.shownBy len v]).isEmpty = false := by
            cases acc <;> rfl
          have fin : ∀ z : Nat, z = Pm.lenBy len v → D.nx [some (.int n), some (.ref l), some (.int st), some (.ref m), some (.int z), some (.ref q.1), some (.int (Pm.shownBy len v : Nat))] H4 := fun z ez => by
            refine hk _ _ ⟨acc ++ [Pm.shownBy len v], z, _, _, rfl, s4, hm4, hp4, by simp; omega, hif, ?_, ?_⟩
            · rw [ez, lenE, hlet2]
              split <;> omega
            · rw [ne, hnew, ez, List.append_assoc]
              rfl
          refine ⟨_, rfl, q.1, C, q.2.1, _, _, rfl, pat4.ins, T.cl, T.nJ, fPiece_jt _ _, rfl, _, rfl, ?_⟩
          by_cases hj : v.joint = .space
          · refine if_true_of ((js_is v.joint .space).trans (decide_eq_true hj)) ⟨_, rfl, _, _, rfl, rfl, ?_⟩
            exact fin (len + v.content.length + 1) (by rw [lenE, if_pos hj])
          · refine if_false_of ((js_is v.joint .space).trans (decide_eq_false hj)) ?_
            exact fin (len + v.content.length) (by rw [lenE, if_neg hj]; rfl)
        -- if lengths and shown > width
        refine ⟨_, rfl, _, .inl ⟨_, SqL.of hm3, rfl⟩, ?_⟩
        rw [vn_empty]
        cases ea : acc.isEmpty with
        | true =>
          rw [ea] at hdue
          refine iteF (iteF ?_)
          refine goes _ ?_ fun _ _ h => h
          rw [hdue, allowedGo_cons]
          rw [if_neg (fun z => nomatch z.1)]
        | false =>
          rw [ea] at hdue
          refine iteT ⟨_, rfl, _, rfl, _, _, rfl, rfl, _, rfl, ?_⟩
          by_cases hw : n < Pm.shownBy len v
          · refine if_true_of (decide_eq_true (by omega)) ?_
            have e : Pm.allowed n pd = acc := by
              rw [hdue, allowedGo_cons]
              rw [if_pos ⟨rfl, hw⟩, List.append_nil]
            refine ⟨_, rfl, k H' m s3 nm ?_⟩
            rw [e]
            exact hm3
          · refine if_false_of (decide_eq_false (by omega)) ?_
            refine goes _ ?_ fun _ _ h => h
            rw [hdue, allowedGo_cons]
            rw [if_neg (fun z => hw z.2)]
    · rintro σ H' ⟨acc, len, x5, x6, rfl, s3, hm3, hp3, hacc, hip, hln, hdue⟩
      have e0 : pd.drop (refs3 qd).length = [] := List.drop_eq_nil_of_le (by rw [refs3_len, hlen]; exact Nat.le_refl _)
      rw [e0] at hdue
      have e : Pm.allowed n pd = acc := by
        rw [hdue]
        show acc ++ [] = acc
        rw [List.append_nil]
      refine ⟨_, rfl, k H' m s3 nm ?_⟩
      rw [e]
      exact hm3
end
end Pl

namespace Pl
open PySem PySem.Spec PyProof.Rows L2
def spBest (K : PySem.W.Frag) (C : Addr) : Sp := fun vs H Q _ => ∃ (n : Nat) (l : Addr) (qs : List P3) (ps : List Kh455.Piece), vs = [.int n, .ref l] ∧ PcsAt C H l qs ps ∧ n ≤ 100000 ∧ Pm.letters ps ≤ 10000 ∧ ps.length ≤ 10000 ∧ (∀ p ∈ ps, p.content ≠ []) ∧
  ∀ (H' : Hp) (p : Addr), Same H H' → H p = none → H' p = some (.lst (vn (Kh455.bestBreaking n ps).2)) → Q (.ref p) H'
section
variable {P : Program} {w : World} {K : PySem.W.Frag} {mg : Str → Option Value} {base : Heap} {f : Addr} {fd : FuncData}
/-- how far the second loop is -/
def atOf (σ : L2.St) : Nat := match σ[10]? with
  | some (some (V.int i)) => i.toNat
  | _ => 0
end
end Pl

namespace L2
open PySem PySem.Spec PyProof.Rows
/-- err.f, err the error that the suite holds, of whatever class of the program's own -/
def tErrFld (K : PySem.W.Frag) (a : Addr) (cls : Value) (d : Option Addr) (f : Str) (te : TE) : TE := fun σ H Q => ∃ C : Addr, XfC K C ∧ PySem.W.findIn K (.ref C) f = some none ∧ tXf a cls d C f te σ H Q
theorem pe_errFld {X : Cx} {a : Addr} {oe : Obj} {cls : Value} {d : Option Addr} {pn : List (Addr × Obj)} {e : Expr} {te : TE} {pos : Pos} {n : Str} (hz : Zc cls d oe) (hf : ∃ vs, oe.data = .fields vs) (he : PE (X.suite a ((a, oe) :: pn)) e te)
    (hb : attributeBase e n X.env (eval e X.env) = eval e X.env := by rfl) : PE (X.suite a ((a, oe) :: pn)) (.Attribute e n pos) (tErrFld X.K a cls d n te) :=
  ⟨fun pins s σ H Q I ⟨_, T, no, h⟩ => (pe_xf T no hz hf he hb).run pins s σ H Q I h⟩
end L2
namespace Pl
open PySem PySem.Spec PyProof.Rows L2
theorem nats_vn : ∀ {l : List Int}, (∀ x ∈ l, 0 ≤ x ∧ x ≤ 255) → l.map V.int = vn (Pm.nats l)
  | [], _ => rfl
  | a :: l, h => by
    have h1 := h a List.mem_cons_self
    have ih := nats_vn (l := l) fun x hx => h x (List.mem_cons_of_mem _ hx)
    show V.int a :: l.map V.int = V.int ((a.toNat : Nat) : Int) :: vn (Pm.nats l)
    rw [ih, Int.toNat_of_nonneg h1.1]
theorem nats_small {l : List Int} (h : ∀ x ∈ l, 0 ≤ x ∧ x ≤ 255) : ∀ b ∈ Pm.nats l, b < 256 := fun b hb => by
  obtain ⟨x, hx, rfl⟩ := List.mem_map.mp hb
  have := h x hx
  omega
theorem nats_len (l : List Int) : (Pm.nats l).length = l.length := List.length_map _
theorem ints_vn (l : List Nat) : (Pm.asInts l).map V.int = vn l := by
  unfold Pm.asInts vn
  rw [List.map_map]
  rfl
/-- what is known of an error's class where it is caught -/
structure Caught (K : PySem.W.Frag) (C CR : Addr) : Prop where
  xf : XfC K C
  no : PySem.W.findIn K (.ref C) "answer" = some none
  te : PySem.W.exmOne K (.ref C) (.ref CR) = some true
/-- return [refusal.answer], the error (at a0) of the class at C with the code n -/
theorem suite_reads {K : PySem.W.Frag} {C CR : Addr} (c : Caught K C CR) {a0 d : Addr} {n : Int} {H : Hp} {D : Ends} {i : Nat} {σ : L2.St} (hσ : σ[i]? = some (some (.ref a0))) (hd : H d = some (.xd (fAns n))) (k : ∀ p H', H' p = some (.lst [.int n]) → D.rt (.ref p) H') :
    tRet (tLst (tCons (tErrFld K a0 (.ref C) (some d) "answer" (tVar i)) tNil)) D σ H := by
  refine ⟨C, c.xf, c.no, _, hσ, rfl, rfl, d, _, _, rfl, hd, ?_, (by show 1 ≤ sizeLine; decide), fun p np => k p _ upd_same⟩
  have e : (("answer" : Str) == ("answer" : Str)) = true := beq_self_eq_true _
  simp only [fAns, List.lookup, e]
end Pl

namespace Pm
/-- width, patterns and text as they are checked -/
def checked (w : Nat) (a b : List Nat) : Except Int (List Kh455.Piece) :=
  if 10 ≤ w ∧ w ≤ 80 then (match Kh450.decodeAll a with
    | none => .error (-24)
    | some t => match pats (Kh455.wordsOf t) with
      | none => .error (-21)
      | some ps => match Kh450.decodeAll b with
        | none => .error (-24)
        | some x => .ok (Kh455.pieces ps x))
  else .error (-22)
theorem over_checked (w : Nat) (a b : List Nat) (f : List Kh455.Piece → List Int) : overPieces w a b f = match checked w a b with
    | .error e => [e]
    | .ok l => f l := by
  unfold overPieces checked
  by_cases h : 10 ≤ w ∧ w ≤ 80
  · rw [if_pos h, if_pos h]
    cases Kh450.decodeAll a with
    | none => rfl
    | some t =>
      dsimp only
      cases pats (Kh455.wordsOf t) with
      | none => rfl
      | some ps =>
        dsimp only
        cases Kh450.decodeAll b <;> rfl
  · rw [if_neg h, if_neg h]
/-- what is known of the pieces of a text that was handed in -/
structure Handed (l : List Kh455.Piece) : Prop where
  full : ∀ p ∈ l, p.content ≠ []
  lets : letters l ≤ 800
  cnt : l.length ≤ 800
end Pm
namespace L2
open PySem PySem.Spec PyProof.Rows
theorem pass_no {X : Cx} (σ : St) : PassesAt (L2.CX X.prog X.w) X σ E0 := fun _ _ _ _ _ _ ⟨_, _, _, _, _, _, _, _, _, _, _, _, h⟩ => h.elim
end L2
namespace Pl
open PySem PySem.Spec PyProof.Rows L2
/-- a call of a def that may raise, but doesn't here -/
theorem pe_dN {X : Cx} {e : Expr} {es : List Expr} {t : TA} {p pos : Pos} {k : Nat} {x : Str} {ps : List Str} {sp : Sp} (D : Def X.prog X.w X.K X.mg X.base (L2.CX X.prog X.w) k x ps sp) (hr : Room k X.A) (ha : PA X (e :: es) t) (hg : Gl X x := by rfl) (hdb : (x == ("__debug__" : Str)) = false := by decide)
    (he : starEach (e :: es) X.env = (false, eval e X.env) :: starEach es X.env := by rfl) (hpl : (backTo pos (starEach es X.env)).any (·.1) = false := by rfl) : PE X (.Call (.Name x p) (e :: es) [] pos) (tCallS sp (fun _ => E0) t) := by
  obtain ⟨f, fd, hm, hk, hb, F⟩ := D
  exact pe_callS F hr hg hm hk hb pass_no ha hdb he hpl
theorem nats_vn0 : ∀ {l : List Int}, (∀ x ∈ l, 0 ≤ x) → l.map V.int = vn (Pm.nats l)
  | [], _ => rfl
  | a :: l, h => by
    have h1 := h a List.mem_cons_self
    have ih := nats_vn0 (l := l) fun x hx => h x (List.mem_cons_of_mem _ hx)
    show V.int a :: l.map V.int = V.int ((a.toNat : Nat) : Int) :: vn (Pm.nats l)
    rw [ih, Int.toNat_of_nonneg h1]
/-- the classes of the errors, and what is known of them where they are caught -/
structure Kinds (K : PySem.W.Frag) (CR CO CP CU : Addr) : Prop where
  o : Caught K CO CR
  p : Caught K CP CR
  u : Caught K CU CR
def isKind (CO CP CU C : Addr) (n : Int) : Prop := (C = CO ∧ n = -22) ∨ (C = CP ∧ n = -21) ∨ (C = CU ∧ n = -24)
theorem Kinds.caught {K : PySem.W.Frag} {CR CO CP CU C : Addr} {n : Int} (x : Kinds K CR CO CP CU) (h : isKind CO CP CU C n) : Caught K C CR := by
  rcases h with ⟨rfl, _⟩ | ⟨rfl, _⟩ | ⟨rfl, _⟩
  · exact x.o
  · exact x.p
  · exact x.u
/-- width, patterns, text: the pieces, or an error -/
def spChecked (K : PySem.W.Frag) (CO CP CU C : Addr) : Sp := fun vs H Q E => ∃ (n : Nat) (a b : Addr) (an bn : List Nat), vs = [.int n, .ref a, .ref b] ∧ SqL K H a (vn an) ∧ SqL K H b (vn bn) ∧ an.length ≤ 600 ∧ bn.length ≤ 600 ∧ (∀ x ∈ an, x < 256) ∧ (∀ x ∈ bn, x < 256) ∧
  (∀ e, Pm.checked n an bn = .error e → ∀ (CE d : Addr) (H' : Hp), isKind CO CP CU CE e → Same H H' → H' d = some (.xd (fAns e)) → E (.ref CE) (some d) H') ∧
  (∀ ps, Pm.checked n an bn = .ok ps → n ≤ 80 → Pm.Handed ps → ∀ (H' : Hp) (m : Addr) (qs : List P3), Same H H' → PcsAt C H' m qs ps → Q (.ref m) H')
/-- the counts of the greedy division -/
def spGreedy (K : PySem.W.Frag) (C : Addr) : Sp := fun vs H Q _ => ∃ (n : Nat) (l : Addr) (qs : List P3) (ps : List Kh455.Piece), vs = [.int n, .ref l] ∧ PcsAt C H l qs ps ∧ n ≤ 100000 ∧ Pm.letters ps ≤ 10000 ∧ ps.length ≤ 10000 ∧ (∀ p ∈ ps, p.content ≠ []) ∧
  ∀ (H' : Hp) (p : Addr), Same H H' → H p = none → H' p = some (.lst (vn (Kh455.greedy n ps))) → Q (.ref p) H'
/-- the cost of a division -/
def spDiv (K : PySem.W.Frag) (C CF : Addr) : Sp := fun vs H Q E => ∃ (n : Nat) (l c : Addr) (qs : List P3) (ps : List Kh455.Piece) (counts : List Nat), vs = [.int n, .ref l, .ref c] ∧ PcsAt C H l qs ps ∧ SqL K H c (vn counts) ∧ n ≤ 100000 ∧ Pm.letters ps ≤ 10000 ∧ ps.length ≤ 10000 ∧
  (Kh455.costOf n counts ps = none → ∀ (d : Addr) (H' : Hp), Same H H' → H' d = some (.xd (fAns (-33))) → E (.ref CF) (some d) H') ∧
  (∀ x, Kh455.costOf n counts ps = some x → ∀ H' : Hp, Same H H' → Q (.int (x : Nat)) H')
/-- how far greedy_counts is -/
def at3 (σ : L2.St) : Nat := match σ[3]? with
  | some (some (V.int i)) => i.toNat
  | _ => 0
section
variable {P : Program} {w : World} {K : PySem.W.Frag} {mg : Str → Option Value} {base : Heap} {f : Addr} {fd : FuncData}
theorem scChecked : FnScope ["width", "patterns", "text", "known"] ["width", "patterns", "text"] (defScope sChecked) := ⟨rfl, rfl, rfl, by decide +kernel, rfl, by decide +kernel, by decide +kernel⟩
theorem ok_checked {C CO CP CU CQ : Addr} (F : Fun K "checked_pieces" "checked_pieces" sChecked f fd)
    (DK : Def P w K mg base (L2.CX P w) 6 "check_width" ["width"] (spCheck CO))
    (DR : Def P w K mg base (L2.CX P w) 10 "read_utf8" ["octets"] (spRead K CU)) (DP : Def P w K mg base (L2.CX P w) 12 "patterns_of" ["text"] (spPats K C CP))
    (DI : Def P w K mg base CX0 12 "pieces_of" ["patterns", "text"] (spPieces K C CQ)) :
    FnOk P w K mg base (L2.CX P w) 14 f fd ["width", "patterns", "text"] (spChecked K CO CP CU CQ) := by
  refine F.okX scChecked (fun vs H Q E h => ?_) (fun cdv A outer s H vs Q E hr h => ?_)
  · obtain ⟨n, a, b, an, bn, rfl, _⟩ := h
    rfl
  · have hr10 : Room 10 _ := hr.mono (by decide)
    have hr12 : Room 12 _ := hr.mono (by decide)
    have hr6 : Room 6 _ := hr.mono (by decide)
    refine ⟨_, pss_cons (ps_expr (pe_dX DK hr6 (takes_of rfl rfl rfl rfl) (by exact (pa_cons (pv 0) pa_nil))))
      (pss_cons (ps_set (i := 3) scChecked.nd rfl (Or.inl rfl) (pe_dX DP hr12 (takes_of rfl rfl rfl rfl) (by exact (pa_cons (pe_dX DR hr10 (takes_of rfl rfl rfl rfl) (by exact (pa_cons (pv 1) pa_nil))) pa_nil))))
      (pss_one (ps_ret (pe_d DI hr12 (by exact (pa_cons (pv 3) (pa_cons (pe_dX DR hr10 (takes_of rfl rfl rfl rfl) (by exact (pa_cons (pv 2) pa_nil))) pa_nil))))))), ?_⟩
    obtain ⟨n, a, b, an, bn, rfl, ha, hb, la, lb, sa, sb, kN, kS⟩ := h
    unfold Pm.checked at kN kS
    refine ⟨_, rfl, n, rfl, fun hw d nd => ?_, fun hw => ?_⟩
    · rw [if_neg hw] at kN
      exact kN _ rfl CO d _ (.inl ⟨rfl, rfl⟩) ((Same.refl H).new nd) upd_same
    rw [if_pos hw] at kN kS
    refine ⟨_, rfl, a, an, rfl, ha, la, sa, fun e d H1 s1 hd => ?_, fun t et H1 p1 s1 hp1 => ?_⟩
    · simp only [e] at kN
      exact kN _ rfl CU d _ (.inr (.inr ⟨rfl, rfl⟩)) s1 hd
    · simp only [et] at kN kS
      have lt := Pm.decode_len _ an t (Nat.le_refl _) et
      refine ⟨p1, t, rfl, SqL.of hp1, (by omega), fun e d H2 s2 hd => ?_, fun ps ep H2 l qs s2 hP => ?_⟩
      · simp only [e] at kN
        exact kN _ rfl CP d _ (.inr (.inl ⟨rfl, rfl⟩)) (s1.trans s2) hd
      · simp only [ep] at kN kS
        have good := Pm.pats_good ep
        refine ⟨_, rfl, _, rfl, b, bn, rfl, (s1.trans s2).seq hb, lb, sb, fun e d H3 s3 hd => ?_, fun tx ew H3 p3 s3 hp3 => ?_⟩
        · simp only [e] at kN
          exact kN _ rfl CU d _ (.inr (.inr ⟨rfl, rfl⟩)) ((s1.trans s2).trans s3) hd
        · simp only [ew] at kN kS
          have lw := Pm.decode_len _ bn tx (Nat.le_refl _) ew
          refine ⟨l, p3, qs, ps, tx, rfl, hP.same s3, fun p hp => ⟨(good p hp).some_, (good p hp).lv, Nat.le_trans (good p hp).short (by omega)⟩, SqL.of hp3, (by omega), fun H4 p4 q4 P4 => ?_⟩
          have full := Pm.pieces_full ps tx fun p hp => (good p hp).some_
          have lets := Pm.pieces_letters ps tx
          have cnt := Pm.count_le _ full
          exact kS _ rfl hw.2 ⟨full, by omega, by omega⟩ H4 p4 q4 (((s1.trans s2).trans s3).trans P4.same) P4.at_
theorem scGreedy : FnScope ["width", "pieces", "counts", "at"] ["width", "pieces"] (defScope sGreedy) := ⟨rfl, rfl, rfl, by decide +kernel, rfl, by decide +kernel, by decide +kernel⟩
theorem ok_greedy {C : Addr} (F : Fun K "greedy_counts" "greedy_counts" sGreedy f fd) (ml : mg "len" = none) (DA : Def P w K mg base CX0 2 "allowed_lengths" ["width", "pieces", "start"] (spAllowed C)) : FnOk P w K mg base CX0 4 f fd ["width", "pieces"] (spGreedy K C) := by
  refine F.ok scGreedy (fun vs H Q E h => ?_) (fun cdv A outer s H vs Q E hr h => ?_)
  · obtain ⟨n, l, qs, ps, rfl, _⟩ := h
    rfl
  · have hr2 : Room 2 _ := hr.mono (by decide)
    refine ⟨_, pss_cons (ps_set (i := 2) scGreedy.nd rfl (Or.inl rfl) (pe_lst pa_nil))
      (pss_cons (ps_set (i := 3) scGreedy.nd rfl (Or.inl rfl) pe_int)
      (pss_cons (ps_while PassesOwn.never (pt_cmpR op_lt (pv 3) (pe_callB call_len_seq (by rfl) ml PySem.boot_len (pa_cons (pv 1) pa_nil)) (nomark _))
        (pss_cons (ps_expr (pe_bm PySem.F.plainAttrs_list PySem.F.slot_list_append PySem.F.type_list_append mt_append (pv 2) (pa_cons (pe_callB call_len_seq (by rfl) ml PySem.boot_len (pa_cons (pe_d DA hr2 (by exact (pa_cons (pv 0) (pa_cons (pv 1) (pa_cons (pv 3) pa_nil))))) pa_nil)) pa_nil)))
          (pss_one (ps_aug (i := 3) scGreedy.nd rfl (.inl rfl) (pe_ix ix_list (pv 2) (pe_un un_neg pe_int) (fun _ _ => rfl)) ip_add))))
      (pss_one (ps_ret (pv 2))))), ?_⟩
    obtain ⟨n, l, qs, ps, rfl, hP, hn, hlet, hct, full, k⟩ := h
    have big : 1000000 ≤ sizeLine := by decide
    have hl3 : (refs3 qs).length = ps.length := by rw [refs3_len, hP.len]
    refine ⟨Nat.zero_le _, fun m nm => ?_⟩
    have s1 : Same H (upd H m (.lst [])) := (Same.refl H).new nm
    have hm1 : upd H m (.lst []) m = some (.lst (vn [])) := upd_same
    generalize upd H m (.lst []) = H1 at s1 hm1
    refine while_by (fun σ H' => ∃ (a g : Nat) (done : List Nat), σ = [some (.int n), some (.ref l), some (.ref m), some (.int a)] ∧ Same H H' ∧ H' m = some (.lst (vn done)) ∧ a ≤ ps.length ∧ done.length ≤ a ∧
        (ps.drop a).length ≤ g ∧ Kh455.greedy n ps = done ++ Kh455.greedyLoop n g (ps.drop a))
      (fun σ H' => ps.length - at3 σ) ⟨0, ps.length, [], rfl, s1, hm1, Nat.zero_le _, Nat.le_refl _, Nat.le_refl _, rfl⟩ ?_ ?_
    · rintro σ H6 ⟨a, g, done, rfl, s6, hm6, ha, hdl, hg, hdue⟩
      refine ⟨_, rfl, _, rfl, l, _, rfl, .inl (s6.seq (SqL.of hP.lst)), _, _, rfl, rfl, _, rfl, ?_⟩
      rw [hl3]
      by_cases hlt : a < ps.length
      · refine if_true_of (decide_eq_true (by omega)) ?_
        have ne : ps.drop a ≠ [] := fun z => by
          have := List.drop_eq_nil_iff.mp z
          omega
        obtain ⟨b1, b2, g2, hg2, b3⟩ := Pm.greedyLoop_step (w := n) (fun q hq => full q (List.mem_of_mem_drop hq)) ne hg
        rw [b3, List.drop_drop] at hdue
        rw [List.length_drop] at b2 hg2
        refine ⟨_, rfl, .inl ⟨rfl, _, SqL.of hm6⟩, _, rfl, _, rfl, _, rfl, n, l, a, qs, ps, rfl, hP.same s6, Nat.le_of_lt hlt, hlet, hct, fun H7 p7 s7 np7 hp7 => ?_⟩
        refine ⟨p7, _, rfl, .inl (SqL.of hp7), ?_⟩
        have hm7 := s7 _ _ hm6
        generalize hc : (Pm.allowed n (ps.drop a)).length = c at *
        have ec : (vn (Pm.allowed n (ps.drop a))).length = c := by rw [vn_len, hc]
        rw [ec]
        refine ⟨m, _, _, rfl, rfl, hm7, (by rw [vn_len]; omega), ?_⟩
        have s8 : Same H (upd H7 m (.lst (vn done ++ [.int c]))) := (s6.trans s7).own nm
        have hm8 : upd H7 m (.lst (vn done ++ [.int c])) m = some (.lst (vn (done ++ [c]))) := by
          rw [upd_same, vn_snoc]
        generalize upd H7 m (.lst (vn done ++ [.int c])) = H8 at s8 hm8
        refine ⟨_, rfl, _, rfl, _, rfl, m, _, -1, .int c, rfl, rfl, SqL.of hm8, ?_, _, _, rfl, rfl, ?_⟩
        · rw [← vn_snoc]
          exact atI_last _ _
        refine ⟨⟨a + c, g2, done ++ [c], rfl, s8, hm8, (by omega), (by simp; omega), ?_, ?_⟩, ?_⟩
        · rw [List.length_drop]
          omega
        · rw [hdue, List.append_assoc]
          rfl
        · show ps.length - ((a : Int) + (c : Int)).toNat < ps.length - (a : Int).toNat
          omega
      · refine if_false_of (decide_eq_false (by omega)) ?_
        have e : ps.drop a = [] := List.drop_eq_nil_iff.mpr (by omega)
        rw [e, Pm.greedyLoop_nil, List.append_nil] at hdue
        refine ⟨_, rfl, k H6 m s6 nm ?_⟩
        rw [hdue]
        exact hm6
    · rintro σ H' Q1 Q2 hq ⟨v, e, v2, e2, p, ys, ep, sq, i, j, ei, ej, k, ek, q⟩
      exact ⟨v, e, v2, e2, p, ys, ep, sq, i, j, ei, ej, k, ek, hq _ _ q⟩
end
end Pl

namespace Pl
open PySem PySem.Spec PyProof.Rows L2
/-! ### the operations over pieces -/
/-- the promise of the whole -/
def spBreak (K : PySem.W.Frag) : Sp := fun vs H Q _ => ∃ (n : Nat) (a b : Addr) (ns ms : List Int), vs = [.int n, .ref a, .ref b] ∧ SqL K H a (ns.map V.int) ∧ SqL K H b (ms.map V.int) ∧
  ns.length ≤ 600 ∧ ms.length ≤ 600 ∧ (∀ x ∈ ns, 0 ≤ x ∧ x ≤ 255) ∧ (∀ x ∈ ms, 0 ≤ x ∧ x ≤ 255) ∧ ∀ (H' : Hp) (p : Addr), H' p = some (.lst ((PyKh455.break_text n ns ms).map V.int)) → Q (.ref p) H'
def spCost (K : PySem.W.Frag) : Sp := fun vs H Q _ => ∃ (n : Nat) (a b : Addr) (ns ms : List Int), vs = [.int n, .ref a, .ref b] ∧ SqL K H a (ns.map V.int) ∧ SqL K H b (ms.map V.int) ∧
  ns.length ≤ 600 ∧ ms.length ≤ 600 ∧ (∀ x ∈ ns, 0 ≤ x ∧ x ≤ 255) ∧ (∀ x ∈ ms, 0 ≤ x ∧ x ≤ 255) ∧ ∀ (H' : Hp) (p : Addr), H' p = some (.lst ((PyKh455.cost n ns ms).map V.int)) → Q (.ref p) H'
def spGreedyText (K : PySem.W.Frag) : Sp := fun vs H Q _ => ∃ (n : Nat) (a b : Addr) (ns ms : List Int), vs = [.int n, .ref a, .ref b] ∧ SqL K H a (ns.map V.int) ∧ SqL K H b (ms.map V.int) ∧
  ns.length ≤ 600 ∧ ms.length ≤ 600 ∧ (∀ x ∈ ns, 0 ≤ x ∧ x ≤ 255) ∧ (∀ x ∈ ms, 0 ≤ x ∧ x ≤ 255) ∧ ∀ (H' : Hp) (p : Addr), H' p = some (.lst ((PyKh455.greedy_text n ns ms).map V.int)) → Q (.ref p) H'
def spCostOf (K : PySem.W.Frag) : Sp := fun vs H Q _ => ∃ (n : Nat) (a b c : Addr) (ns ms cs : List Int), vs = [.int n, .ref a, .ref b, .ref c] ∧ SqL K H a (ns.map V.int) ∧ SqL K H b (ms.map V.int) ∧ SqL K H c (cs.map V.int) ∧
  ns.length ≤ 600 ∧ ms.length ≤ 600 ∧ (∀ x ∈ ns, 0 ≤ x ∧ x ≤ 255) ∧ (∀ x ∈ ms, 0 ≤ x ∧ x ≤ 255) ∧ (∀ x ∈ cs, 0 ≤ x) ∧ ∀ (H' : Hp) (p : Addr), H' p = some (.lst ((PyKh455.cost_of n ns ms cs).map V.int)) → Q (.ref p) H'
section
variable {P : Program} {w : World} {K : PySem.W.Frag} {mg : Str → Option Value} {base : Heap} {f : Addr} {fd : FuncData}
theorem scGreedyText : FnScope ["width", "patterns", "text", "pieces", "refusal"] ["width", "patterns", "text"] (defScope sGreedyText) := ⟨rfl, rfl, rfl, by decide +kernel, rfl, by decide +kernel, by decide +kernel⟩
theorem ok_greedyText {CR CO CP CU CQ : Addr} (F : Fun K "greedy_text" "greedy_text" sGreedyText f fd) (gR : mg "Refusal" = some (.ref CR)) (KK : Kinds K CR CO CP CU)
    (DH : Def P w K mg base (L2.CX P w) 14 "checked_pieces" ["width", "patterns", "text"] (spChecked K CO CP CU CQ)) (DB : Def P w K mg base CX0 4 "greedy_counts" ["width", "pieces"] (spGreedy K CQ))
    (DL : Def P w K mg base CX0 4 "lines_of" ["pieces", "counts"] (spLines K CQ)) (DA : Def P w K mg base CX0 6 "answer_lines" ["lines"] (spAnswer K)) :
    FnOk P w K mg base CX0 18 f fd ["width", "patterns", "text"] (spGreedyText K) := by
  refine F.ok scGreedyText (fun vs H Q E h => ?_) (fun cdv A outer s H vs Q E hr h => ?_)
  · obtain ⟨n, a, b, ns, ms, rfl, _⟩ := h
    rfl
  · have hr14 : Room 14 _ := hr.mono (by decide)
    have hr6 : Room 6 _ := hr.mono (by decide)
    have hr4 : Room 4 _ := hr.mono (by decide)
    refine ⟨_, pss_cons (ps_try_as (i := 4)
        (tb := fun W => tAsg (tCallS (spChecked K CO CP CU CQ) (WE W) (tCons (tVar 0) (tCons (tVar 1) (tCons (tVar 2) tNil)))) (gName 3))
        (ts := fun a cls d => tRet (tLst (tCons (tErrFld K a cls d "answer" (tVar 4)) tNil))) (Wout := fun _ _ _ _ => False) rfl rfl scGreedyText.nd rfl rfl ⟨rfl, by decide, Or.inl gR⟩ takes0
        (fun W pn xe tk _ => pss_one (ps_set (i := 3) scGreedyText.nd rfl (Or.inl rfl) (by exact (pe_dX DH hr14 tk (by exact (pa_cons (pv 0) (pa_cons (pv 1) (pa_cons (pv 2) pa_nil))))))))
        (fun a oe cls d pn hz hf => pss_one (ps_ret (pe_lst (by exact (pa_cons (pe_errFld hz hf (pv 4)) pa_nil))))))
      (pss_one (ps_ret (pe_d DA hr6 (by exact (pa_cons (pe_d DL hr4 (by exact (pa_cons (pv 3) (pa_cons (pe_d DB hr4 (by exact (pa_cons (pv 0) (pa_cons (pv 3) pa_nil)))) pa_nil)))) pa_nil))))), ?_⟩
    obtain ⟨n, a, b, ns, ms, rfl, ha, hb, hna, hnb, ba, bb, k⟩ := h
    have due := (Pm.greedy_eq n ns ms).trans (Pm.over_checked _ _ _ _)
    have en : ((n : Nat) : Int).toNat = n := Int.toNat_natCast n
    rw [en] at due
    rw [nats_vn ba] at ha
    rw [nats_vn bb] at hb
    have la : (Pm.nats ns).length ≤ 600 := by rw [nats_len]; exact hna
    have lb : (Pm.nats ms).length ≤ 600 := by rw [nats_len]; exact hnb
    have sa := nats_small ba
    have sb := nats_small bb
    generalize Pm.nats ns = an at *
    generalize Pm.nats ms = bn at *
    refine ⟨_, rfl, _, rfl, _, rfl, n, a, b, an, bn, rfl, ha, hb, la, lb, sa, sb, fun e he CE d H1 hk s1 hd => ?_, fun pc hpc hn hh H4 p4 q4 s4 P4 => ?_⟩
    · refine ⟨true, (KK.caught hk).te, fun _ a0 _ => suite_reads (KK.caught hk) rfl hd fun p H2 h2 => k H2 p ?_, fun q => Bool.noConfusion q⟩
      rw [due, he]
      exact h2
    · rw [hpc] at due
      dsimp only at due
      have full := hh.full
      have lets := hh.lets
      have cnt := hh.cnt
      have fits := Pm.greedy_fits n full
      have few := Pm.fits_len _ _ fits
      refine ⟨_, rfl, _, rfl, _, rfl, n, p4, q4, pc, rfl, P4, (by omega), (by omega), (by omega), full, fun H5 p5 s5 n5 hp5 => ?_⟩
      refine ⟨p4, p5, q4, pc, _, rfl, P4.same s5, SqL.of hp5, fits, (by omega), (by omega), fun H6 p6 as s6 L6 => ?_⟩
      have sz := Pm.takes_sizes (Kh455.greedy n pc) pc
      have ct := Pm.takes_len (Kh455.greedy n pc) pc
      refine ⟨p6, as, _, rfl, L6, (by omega), (by rw [List.length_map, ct]; omega), fun H7 p7 s7 hp7 => k H7 p7 ?_⟩
      rw [due, hp7]
      unfold Pm.told
      rw [ints_vn]
end
end Pl

namespace Pl
open PySem PySem.Spec PyProof.Rows L2
/-! ### the end: what the top has written -/
theorem exm_named {K : PySem.W.Frag} {S R : Addr} (h1 : PySem.W.subIn K (.ref R) (.type "BaseException") = some true) (h2 : PySem.W.isClsIn K R = true) (h3 : PySem.W.typeIn K (.ref R) = some (.type "type"))
    (h4 : PySem.W.subIn K (.ref S) (.ref R) = some true) : PySem.W.exmOne K (.ref S) (.ref R) = some true := by
  have e1 : (PySem.W.subIn K (.ref R) (.type "BaseException") == some true) = true := by rw [h1] <;> rfl
  have e2 : ((PySem.W.clsIn K R).isSome && PySem.W.typeIn K (.ref R) == some (.type "type")) = true := by
    have z : (PySem.W.clsIn K R).isSome = true := h2
    rw [z, h3] <;> rfl
  show (if (PySem.W.subIn K (.ref R) (.type "BaseException") == some true) = true then (if ((PySem.W.clsIn K R).isSome && PySem.W.typeIn K (.ref R) == some (.type "type")) = true then PySem.W.subIn K (.ref S) (.ref R) else none) else none) = some true
  rw [if_pos e1, if_pos e2]
  exact h4
theorem all_mk {P : Program} {w : World} {K : PySem.W.Frag} {h : Heap} {mg : Str → Option Value} (X : K.In h) (G : h.Ns mainGlobals mg)
    {fa CR CP CO CU CT CQ t_SMALLEST t_LEADS f_white f_isChar f_digit f_cap f_small f_letter f_lower f_words f_pat f_pats f_size f_seq f_read f_lev f_pos f_parts f_pcPart f_pcWord f_pieces f_line f_lines f_allowed f_writeSeq f_write f_answer f_check f_greedy f_checked f_greedyText f_refI f_npI f_oorI f_nuI f_patI f_pieceI : Addr}
    {od_white an_white : Option Addr} {sl_white : Array (Option Value)} {oc_white kV_white dc_white pm_white cd_white ct_white : Value}
    {od_isChar an_isChar : Option Addr} {sl_isChar : Array (Option Value)} {oc_isChar kV_isChar dc_isChar pm_isChar cd_isChar ct_isChar : Value}
    {od_digit an_digit : Option Addr} {sl_digit : Array (Option Value)} {oc_digit kV_digit dc_digit pm_digit cd_digit ct_digit : Value}
    {od_cap an_cap : Option Addr} {sl_cap : Array (Option Value)} {oc_cap kV_cap dc_cap pm_cap cd_cap ct_cap : Value}
    {od_small an_small : Option Addr} {sl_small : Array (Option Value)} {oc_small kV_small dc_small pm_small cd_small ct_small : Value}
    {od_letter an_letter : Option Addr} {sl_letter : Array (Option Value)} {oc_letter kV_letter dc_letter pm_letter cd_letter ct_letter : Value}
    {od_lower an_lower : Option Addr} {sl_lower : Array (Option Value)} {oc_lower kV_lower dc_lower pm_lower cd_lower ct_lower : Value}
    {od_words an_words : Option Addr} {sl_words : Array (Option Value)} {oc_words kV_words dc_words pm_words cd_words ct_words : Value}
    {od_pat an_pat : Option Addr} {sl_pat : Array (Option Value)} {oc_pat kV_pat dc_pat pm_pat cd_pat ct_pat : Value}
    {od_pats an_pats : Option Addr} {sl_pats : Array (Option Value)} {oc_pats kV_pats dc_pats pm_pats cd_pats ct_pats : Value}
    {od_size an_size : Option Addr} {sl_size : Array (Option Value)} {oc_size kV_size dc_size pm_size cd_size ct_size : Value}
    {od_seq an_seq : Option Addr} {sl_seq : Array (Option Value)} {oc_seq kV_seq dc_seq pm_seq cd_seq ct_seq : Value}
    {od_read an_read : Option Addr} {sl_read : Array (Option Value)} {oc_read kV_read dc_read pm_read cd_read ct_read : Value}
    {od_lev an_lev : Option Addr} {sl_lev : Array (Option Value)} {oc_lev kV_lev dc_lev pm_lev cd_lev ct_lev : Value}
    {od_pos an_pos : Option Addr} {sl_pos : Array (Option Value)} {oc_pos kV_pos dc_pos pm_pos cd_pos ct_pos : Value}
    {od_parts an_parts : Option Addr} {sl_parts : Array (Option Value)} {oc_parts kV_parts dc_parts pm_parts cd_parts ct_parts : Value}
    {od_pcPart an_pcPart : Option Addr} {sl_pcPart : Array (Option Value)} {oc_pcPart kV_pcPart dc_pcPart pm_pcPart cd_pcPart ct_pcPart : Value}
    {od_pcWord an_pcWord : Option Addr} {sl_pcWord : Array (Option Value)} {oc_pcWord kV_pcWord dc_pcWord pm_pcWord cd_pcWord ct_pcWord : Value}
    {od_pieces an_pieces : Option Addr} {sl_pieces : Array (Option Value)} {oc_pieces kV_pieces dc_pieces pm_pieces cd_pieces ct_pieces : Value}
    {od_line an_line : Option Addr} {sl_line : Array (Option Value)} {oc_line kV_line dc_line pm_line cd_line ct_line : Value}
    {od_lines an_lines : Option Addr} {sl_lines : Array (Option Value)} {oc_lines kV_lines dc_lines pm_lines cd_lines ct_lines : Value}
    {od_allowed an_allowed : Option Addr} {sl_allowed : Array (Option Value)} {oc_allowed kV_allowed dc_allowed pm_allowed cd_allowed ct_allowed : Value}
    {od_writeSeq an_writeSeq : Option Addr} {sl_writeSeq : Array (Option Value)} {oc_writeSeq kV_writeSeq dc_writeSeq pm_writeSeq cd_writeSeq ct_writeSeq : Value}
    {od_write an_write : Option Addr} {sl_write : Array (Option Value)} {oc_write kV_write dc_write pm_write cd_write ct_write : Value}
    {od_answer an_answer : Option Addr} {sl_answer : Array (Option Value)} {oc_answer kV_answer dc_answer pm_answer cd_answer ct_answer : Value}
    {od_check an_check : Option Addr} {sl_check : Array (Option Value)} {oc_check kV_check dc_check pm_check cd_check ct_check : Value}
    {od_greedy an_greedy : Option Addr} {sl_greedy : Array (Option Value)} {oc_greedy kV_greedy dc_greedy pm_greedy cd_greedy ct_greedy : Value}
    {od_checked an_checked : Option Addr} {sl_checked : Array (Option Value)} {oc_checked kV_checked dc_checked pm_checked cd_checked ct_checked : Value}
    {od_greedyText an_greedyText : Option Addr} {sl_greedyText : Array (Option Value)} {oc_greedyText kV_greedyText dc_greedyText pm_greedyText cd_greedyText ct_greedyText : Value}
    {od_refI an_refI : Option Addr} {sl_refI : Array (Option Value)} {oc_refI kV_refI dc_refI pm_refI cd_refI ct_refI : Value}
    {od_npI an_npI : Option Addr} {sl_npI : Array (Option Value)} {oc_npI kV_npI dc_npI pm_npI cd_npI ct_npI : Value}
    {od_oorI an_oorI : Option Addr} {sl_oorI : Array (Option Value)} {oc_oorI kV_oorI dc_oorI pm_oorI cd_oorI ct_oorI : Value}
    {od_nuI an_nuI : Option Addr} {sl_nuI : Array (Option Value)} {oc_nuI kV_nuI dc_nuI pm_nuI cd_nuI ct_nuI : Value}
    {od_patI an_patI : Option Addr} {sl_patI : Array (Option Value)} {oc_patI kV_patI dc_patI pm_patI cd_patI ct_patI : Value}
    {od_pieceI an_pieceI : Option Addr} {sl_pieceI : Array (Option Value)} {oc_pieceI kV_pieceI dc_pieceI pm_pieceI cd_pieceI ct_pieceI : Value}
    {t_TAB : Tok}
    {t_LINE_FEED : Tok}
    {t_CARRIAGE_RETURN : Tok}
    {t_BLANK : Tok}
    {t_HYPHEN : Tok}
    {t_POINT : Tok}
    {t_DIGIT_0 : Tok}
    {t_DIGIT_9 : Tok}
    {t_CAPITAL_A : Tok}
    {t_CAPITAL_Z : Tok}
    {t_SMALL_A : Tok}
    {t_SMALL_Z : Tok}
    {t_GREATEST_CHARACTER : Tok}
    {t_FIRST_SURROGATE : Tok}
    {t_LAST_SURROGATE : Tok}
    {t_LEAST_LETTERS : Tok}
    {t_LEAST_WIDTH : Tok}
    {t_GREATEST_WIDTH : Tok}
    {t___name__ : Tok}
    {t_SPACE_JOINT : Tok}
    {t_PLAIN_JOINT : Tok}
    {t_HYPHEN_JOINT : Tok}
    {k_t_SMALLEST0 k_t_SMALLEST1 k_t_SMALLEST2 k_t_SMALLEST3 k_t_SMALLEST4 : Tok} {od_t_SMALLEST : Option Addr} {sl_t_SMALLEST : Array (Option Value)} {m_t_SMALLEST : Nat}
    {k_t_LEADS0 k_t_LEADS1 k_t_LEADS2 k_t_LEADS3 k_t_LEADS4 : Tok} {od_t_LEADS : Option Addr} {sl_t_LEADS : Array (Option Value)} {m_t_LEADS : Nat}
    {nm_CP qn_CP : Str} {N_CP : Addr} {bs_CP : List Value} {sn_CP : List Str} {sub_CP : List Value} {ab_CP : Bool} {col_CP : Option Bool} {dd_CP : Option Addr} {m0_CP m1_CP m2_CP m3_CP m5_CP : Option Value}
    {nm_CO qn_CO : Str} {N_CO : Addr} {bs_CO : List Value} {sn_CO : List Str} {sub_CO : List Value} {ab_CO : Bool} {col_CO : Option Bool} {dd_CO : Option Addr} {m0_CO m1_CO m2_CO m3_CO m5_CO : Option Value}
    {nm_CU qn_CU : Str} {N_CU : Addr} {bs_CU : List Value} {sn_CU : List Str} {sub_CU : List Value} {ab_CU : Bool} {col_CU : Option Bool} {dd_CU : Option Addr} {m0_CU m1_CU m2_CU m3_CU m5_CU : Option Value}
    (hfa : mg "greedy_text" = some (.ref fa))
    (i_TAB : PySem.W.nsIn K mainGlobals "TAB" = some (some (.int 9 t_TAB)))
    (i_LINE_FEED : PySem.W.nsIn K mainGlobals "LINE_FEED" = some (some (.int 10 t_LINE_FEED)))
    (i_CARRIAGE_RETURN : PySem.W.nsIn K mainGlobals "CARRIAGE_RETURN" = some (some (.int 13 t_CARRIAGE_RETURN)))
    (i_BLANK : PySem.W.nsIn K mainGlobals "BLANK" = some (some (.int 32 t_BLANK)))
    (i_HYPHEN : PySem.W.nsIn K mainGlobals "HYPHEN" = some (some (.int 45 t_HYPHEN)))
    (i_POINT : PySem.W.nsIn K mainGlobals "POINT" = some (some (.int 46 t_POINT)))
    (i_DIGIT_0 : PySem.W.nsIn K mainGlobals "DIGIT_0" = some (some (.int 48 t_DIGIT_0)))
    (i_DIGIT_9 : PySem.W.nsIn K mainGlobals "DIGIT_9" = some (some (.int 57 t_DIGIT_9)))
    (i_CAPITAL_A : PySem.W.nsIn K mainGlobals "CAPITAL_A" = some (some (.int 65 t_CAPITAL_A)))
    (i_CAPITAL_Z : PySem.W.nsIn K mainGlobals "CAPITAL_Z" = some (some (.int 90 t_CAPITAL_Z)))
    (i_SMALL_A : PySem.W.nsIn K mainGlobals "SMALL_A" = some (some (.int 97 t_SMALL_A)))
    (i_SMALL_Z : PySem.W.nsIn K mainGlobals "SMALL_Z" = some (some (.int 122 t_SMALL_Z)))
    (i_GREATEST_CHARACTER : PySem.W.nsIn K mainGlobals "GREATEST_CHARACTER" = some (some (.int 1114111 t_GREATEST_CHARACTER)))
    (i_FIRST_SURROGATE : PySem.W.nsIn K mainGlobals "FIRST_SURROGATE" = some (some (.int 55296 t_FIRST_SURROGATE)))
    (i_LAST_SURROGATE : PySem.W.nsIn K mainGlobals "LAST_SURROGATE" = some (some (.int 57343 t_LAST_SURROGATE)))
    (i_LEAST_LETTERS : PySem.W.nsIn K mainGlobals "LEAST_LETTERS" = some (some (.int 2 t_LEAST_LETTERS)))
    (i_LEAST_WIDTH : PySem.W.nsIn K mainGlobals "LEAST_WIDTH" = some (some (.int 10 t_LEAST_WIDTH)))
    (i_GREATEST_WIDTH : PySem.W.nsIn K mainGlobals "GREATEST_WIDTH" = some (some (.int 80 t_GREATEST_WIDTH)))
    (s___name__ : PySem.W.nsIn K mainGlobals "__name__" = some (some (.str "plainlayout.typesetting" t___name__)))
    (s_SPACE_JOINT : PySem.W.nsIn K mainGlobals "SPACE_JOINT" = some (some (.str "space" t_SPACE_JOINT)))
    (s_PLAIN_JOINT : PySem.W.nsIn K mainGlobals "PLAIN_JOINT" = some (some (.str "plain" t_PLAIN_JOINT)))
    (s_HYPHEN_JOINT : PySem.W.nsIn K mainGlobals "HYPHEN_JOINT" = some (some (.str "hyphen" t_HYPHEN_JOINT)))
    (n_len : PySem.W.nsIn K mainGlobals "len" = some none)
    (n_range : PySem.W.nsIn K mainGlobals "range" = some none)
    (n_max : PySem.W.nsIn K mainGlobals "max" = some none)
    (n_all : PySem.W.nsIn K mainGlobals "all" = some none)
    (n_enumerate : PySem.W.nsIn K mainGlobals "enumerate" = some none)
    (g_t_SMALLEST : PySem.W.nsIn K mainGlobals "SMALLEST" = some (some (.ref t_SMALLEST)))
    (l_t_SMALLEST : K.lookup t_SMALLEST = some ⟨.type "tuple", od_t_SMALLEST, .seq #[.int 0 k_t_SMALLEST0, .int 0 k_t_SMALLEST1, .int 128 k_t_SMALLEST2, .int 2048 k_t_SMALLEST3, .int 65536 k_t_SMALLEST4] m_t_SMALLEST, sl_t_SMALLEST⟩)
    (g_t_LEADS : PySem.W.nsIn K mainGlobals "LEADS" = some (some (.ref t_LEADS)))
    (l_t_LEADS : K.lookup t_LEADS = some ⟨.type "tuple", od_t_LEADS, .seq #[.int 0 k_t_LEADS0, .int 0 k_t_LEADS1, .int 192 k_t_LEADS2, .int 224 k_t_LEADS3, .int 240 k_t_LEADS4] m_t_LEADS, sl_t_LEADS⟩)
    (a_white : PySem.W.nsIn K mainGlobals "is_white_space" = some (some (.ref f_white)))
    (l_white : K.lookup f_white = some ⟨oc_white, od_white, .func (PySem.W.fnOf "is_white_space" "is_white_space" (defArgs sWhite) (defBody sWhite) (defScope sWhite) .none kV_white dc_white pm_white an_white cd_white ct_white), sl_white⟩)
    (c_white : PySem.W.codeIn K cd_white "is_white_space" = true)
    (k_white : PySem.W.keepIn K (.ref f_white) = true)
    (a_isChar : PySem.W.nsIn K mainGlobals "is_character" = some (some (.ref f_isChar)))
    (l_isChar : K.lookup f_isChar = some ⟨oc_isChar, od_isChar, .func (PySem.W.fnOf "is_character" "is_character" (defArgs sIsChar) (defBody sIsChar) (defScope sIsChar) .none kV_isChar dc_isChar pm_isChar an_isChar cd_isChar ct_isChar), sl_isChar⟩)
    (c_isChar : PySem.W.codeIn K cd_isChar "is_character" = true)
    (k_isChar : PySem.W.keepIn K (.ref f_isChar) = true)
    (a_digit : PySem.W.nsIn K mainGlobals "is_digit" = some (some (.ref f_digit)))
    (l_digit : K.lookup f_digit = some ⟨oc_digit, od_digit, .func (PySem.W.fnOf "is_digit" "is_digit" (defArgs sDigit) (defBody sDigit) (defScope sDigit) .none kV_digit dc_digit pm_digit an_digit cd_digit ct_digit), sl_digit⟩)
    (c_digit : PySem.W.codeIn K cd_digit "is_digit" = true)
    (k_digit : PySem.W.keepIn K (.ref f_digit) = true)
    (a_cap : PySem.W.nsIn K mainGlobals "is_capital_letter" = some (some (.ref f_cap)))
    (l_cap : K.lookup f_cap = some ⟨oc_cap, od_cap, .func (PySem.W.fnOf "is_capital_letter" "is_capital_letter" (defArgs sCap) (defBody sCap) (defScope sCap) .none kV_cap dc_cap pm_cap an_cap cd_cap ct_cap), sl_cap⟩)
    (c_cap : PySem.W.codeIn K cd_cap "is_capital_letter" = true)
    (k_cap : PySem.W.keepIn K (.ref f_cap) = true)
    (a_small : PySem.W.nsIn K mainGlobals "is_small_letter" = some (some (.ref f_small)))
    (l_small : K.lookup f_small = some ⟨oc_small, od_small, .func (PySem.W.fnOf "is_small_letter" "is_small_letter" (defArgs sSmall) (defBody sSmall) (defScope sSmall) .none kV_small dc_small pm_small an_small cd_small ct_small), sl_small⟩)
    (c_small : PySem.W.codeIn K cd_small "is_small_letter" = true)
    (k_small : PySem.W.keepIn K (.ref f_small) = true)
    (a_letter : PySem.W.nsIn K mainGlobals "is_letter" = some (some (.ref f_letter)))
    (l_letter : K.lookup f_letter = some ⟨oc_letter, od_letter, .func (PySem.W.fnOf "is_letter" "is_letter" (defArgs sLetter) (defBody sLetter) (defScope sLetter) .none kV_letter dc_letter pm_letter an_letter cd_letter ct_letter), sl_letter⟩)
    (c_letter : PySem.W.codeIn K cd_letter "is_letter" = true)
    (k_letter : PySem.W.keepIn K (.ref f_letter) = true)
    (a_lower : PySem.W.nsIn K mainGlobals "to_small_letter" = some (some (.ref f_lower)))
    (l_lower : K.lookup f_lower = some ⟨oc_lower, od_lower, .func (PySem.W.fnOf "to_small_letter" "to_small_letter" (defArgs sLower) (defBody sLower) (defScope sLower) .none kV_lower dc_lower pm_lower an_lower cd_lower ct_lower), sl_lower⟩)
    (c_lower : PySem.W.codeIn K cd_lower "to_small_letter" = true)
    (k_lower : PySem.W.keepIn K (.ref f_lower) = true)
    (a_words : PySem.W.nsIn K mainGlobals "words_of" = some (some (.ref f_words)))
    (l_words : K.lookup f_words = some ⟨oc_words, od_words, .func (PySem.W.fnOf "words_of" "words_of" (defArgs sWords) (defBody sWords) (defScope sWords) .none kV_words dc_words pm_words an_words cd_words ct_words), sl_words⟩)
    (c_words : PySem.W.codeIn K cd_words "words_of" = true)
    (k_words : PySem.W.keepIn K (.ref f_words) = true)
    (a_pat : PySem.W.nsIn K mainGlobals "pattern_of" = some (some (.ref f_pat)))
    (l_pat : K.lookup f_pat = some ⟨oc_pat, od_pat, .func (PySem.W.fnOf "pattern_of" "pattern_of" (defArgs sPat) (defBody sPat) (defScope sPat) .none kV_pat dc_pat pm_pat an_pat cd_pat ct_pat), sl_pat⟩)
    (c_pat : PySem.W.codeIn K cd_pat "pattern_of" = true)
    (k_pat : PySem.W.keepIn K (.ref f_pat) = true)
    (a_pats : PySem.W.nsIn K mainGlobals "patterns_of" = some (some (.ref f_pats)))
    (l_pats : K.lookup f_pats = some ⟨oc_pats, od_pats, .func (PySem.W.fnOf "patterns_of" "patterns_of" (defArgs sPats) (defBody sPats) (defScope sPats) .none kV_pats dc_pats pm_pats an_pats cd_pats ct_pats), sl_pats⟩)
    (c_pats : PySem.W.codeIn K cd_pats "patterns_of" = true)
    (k_pats : PySem.W.keepIn K (.ref f_pats) = true)
    (a_size : PySem.W.nsIn K mainGlobals "sequence_size" = some (some (.ref f_size)))
    (l_size : K.lookup f_size = some ⟨oc_size, od_size, .func (PySem.W.fnOf "sequence_size" "sequence_size" (defArgs sSize) (defBody sSize) (defScope sSize) .none kV_size dc_size pm_size an_size cd_size ct_size), sl_size⟩)
    (c_size : PySem.W.codeIn K cd_size "sequence_size" = true)
    (k_size : PySem.W.keepIn K (.ref f_size) = true)
    (a_seq : PySem.W.nsIn K mainGlobals "read_sequence" = some (some (.ref f_seq)))
    (l_seq : K.lookup f_seq = some ⟨oc_seq, od_seq, .func (PySem.W.fnOf "read_sequence" "read_sequence" (defArgs sSeq) (defBody sSeq) (defScope sSeq) .none kV_seq dc_seq pm_seq an_seq cd_seq ct_seq), sl_seq⟩)
    (c_seq : PySem.W.codeIn K cd_seq "read_sequence" = true)
    (k_seq : PySem.W.keepIn K (.ref f_seq) = true)
    (a_read : PySem.W.nsIn K mainGlobals "read_utf8" = some (some (.ref f_read)))
    (l_read : K.lookup f_read = some ⟨oc_read, od_read, .func (PySem.W.fnOf "read_utf8" "read_utf8" (defArgs sRead) (defBody sRead) (defScope sRead) .none kV_read dc_read pm_read an_read cd_read ct_read), sl_read⟩)
    (c_read : PySem.W.codeIn K cd_read "read_utf8" = true)
    (k_read : PySem.W.keepIn K (.ref f_read) = true)
    (a_lev : PySem.W.nsIn K mainGlobals "levels_in" = some (some (.ref f_lev)))
    (l_lev : K.lookup f_lev = some ⟨oc_lev, od_lev, .func (PySem.W.fnOf "levels_in" "levels_in" (defArgs sLev) (defBody sLev) (defScope sLev) .none kV_lev dc_lev pm_lev an_lev cd_lev ct_lev), sl_lev⟩)
    (c_lev : PySem.W.codeIn K cd_lev "levels_in" = true)
    (k_lev : PySem.W.keepIn K (.ref f_lev) = true)
    (a_pos : PySem.W.nsIn K mainGlobals "positions_of" = some (some (.ref f_pos)))
    (l_pos : K.lookup f_pos = some ⟨oc_pos, od_pos, .func (PySem.W.fnOf "positions_of" "positions_of" (defArgs sPos) (defBody sPos) (defScope sPos) .none kV_pos dc_pos pm_pos an_pos cd_pos ct_pos), sl_pos⟩)
    (c_pos : PySem.W.codeIn K cd_pos "positions_of" = true)
    (k_pos : PySem.W.keepIn K (.ref f_pos) = true)
    (a_parts : PySem.W.nsIn K mainGlobals "parts_of" = some (some (.ref f_parts)))
    (l_parts : K.lookup f_parts = some ⟨oc_parts, od_parts, .func (PySem.W.fnOf "parts_of" "parts_of" (defArgs sParts) (defBody sParts) (defScope sParts) .none kV_parts dc_parts pm_parts an_parts cd_parts ct_parts), sl_parts⟩)
    (c_parts : PySem.W.codeIn K cd_parts "parts_of" = true)
    (k_parts : PySem.W.keepIn K (.ref f_parts) = true)
    (a_pcPart : PySem.W.nsIn K mainGlobals "pieces_of_part" = some (some (.ref f_pcPart)))
    (l_pcPart : K.lookup f_pcPart = some ⟨oc_pcPart, od_pcPart, .func (PySem.W.fnOf "pieces_of_part" "pieces_of_part" (defArgs sPcPart) (defBody sPcPart) (defScope sPcPart) .none kV_pcPart dc_pcPart pm_pcPart an_pcPart cd_pcPart ct_pcPart), sl_pcPart⟩)
    (c_pcPart : PySem.W.codeIn K cd_pcPart "pieces_of_part" = true)
    (k_pcPart : PySem.W.keepIn K (.ref f_pcPart) = true)
    (a_pcWord : PySem.W.nsIn K mainGlobals "pieces_of_word" = some (some (.ref f_pcWord)))
    (l_pcWord : K.lookup f_pcWord = some ⟨oc_pcWord, od_pcWord, .func (PySem.W.fnOf "pieces_of_word" "pieces_of_word" (defArgs sPcWord) (defBody sPcWord) (defScope sPcWord) .none kV_pcWord dc_pcWord pm_pcWord an_pcWord cd_pcWord ct_pcWord), sl_pcWord⟩)
    (c_pcWord : PySem.W.codeIn K cd_pcWord "pieces_of_word" = true)
    (k_pcWord : PySem.W.keepIn K (.ref f_pcWord) = true)
    (a_pieces : PySem.W.nsIn K mainGlobals "pieces_of" = some (some (.ref f_pieces)))
    (l_pieces : K.lookup f_pieces = some ⟨oc_pieces, od_pieces, .func (PySem.W.fnOf "pieces_of" "pieces_of" (defArgs sPieces) (defBody sPieces) (defScope sPieces) .none kV_pieces dc_pieces pm_pieces an_pieces cd_pieces ct_pieces), sl_pieces⟩)
    (c_pieces : PySem.W.codeIn K cd_pieces "pieces_of" = true)
    (k_pieces : PySem.W.keepIn K (.ref f_pieces) = true)
    (a_line : PySem.W.nsIn K mainGlobals "line_text" = some (some (.ref f_line)))
    (l_line : K.lookup f_line = some ⟨oc_line, od_line, .func (PySem.W.fnOf "line_text" "line_text" (defArgs sLine) (defBody sLine) (defScope sLine) .none kV_line dc_line pm_line an_line cd_line ct_line), sl_line⟩)
    (c_line : PySem.W.codeIn K cd_line "line_text" = true)
    (k_line : PySem.W.keepIn K (.ref f_line) = true)
    (a_lines : PySem.W.nsIn K mainGlobals "lines_of" = some (some (.ref f_lines)))
    (l_lines : K.lookup f_lines = some ⟨oc_lines, od_lines, .func (PySem.W.fnOf "lines_of" "lines_of" (defArgs sLinesOf) (defBody sLinesOf) (defScope sLinesOf) .none kV_lines dc_lines pm_lines an_lines cd_lines ct_lines), sl_lines⟩)
    (c_lines : PySem.W.codeIn K cd_lines "lines_of" = true)
    (k_lines : PySem.W.keepIn K (.ref f_lines) = true)
    (a_allowed : PySem.W.nsIn K mainGlobals "allowed_lengths" = some (some (.ref f_allowed)))
    (l_allowed : K.lookup f_allowed = some ⟨oc_allowed, od_allowed, .func (PySem.W.fnOf "allowed_lengths" "allowed_lengths" (defArgs sAllowed) (defBody sAllowed) (defScope sAllowed) .none kV_allowed dc_allowed pm_allowed an_allowed cd_allowed ct_allowed), sl_allowed⟩)
    (c_allowed : PySem.W.codeIn K cd_allowed "allowed_lengths" = true)
    (k_allowed : PySem.W.keepIn K (.ref f_allowed) = true)
    (a_writeSeq : PySem.W.nsIn K mainGlobals "write_sequence" = some (some (.ref f_writeSeq)))
    (l_writeSeq : K.lookup f_writeSeq = some ⟨oc_writeSeq, od_writeSeq, .func (PySem.W.fnOf "write_sequence" "write_sequence" (defArgs sWriteSeq) (defBody sWriteSeq) (defScope sWriteSeq) .none kV_writeSeq dc_writeSeq pm_writeSeq an_writeSeq cd_writeSeq ct_writeSeq), sl_writeSeq⟩)
    (c_writeSeq : PySem.W.codeIn K cd_writeSeq "write_sequence" = true)
    (k_writeSeq : PySem.W.keepIn K (.ref f_writeSeq) = true)
    (a_write : PySem.W.nsIn K mainGlobals "write_utf8" = some (some (.ref f_write)))
    (l_write : K.lookup f_write = some ⟨oc_write, od_write, .func (PySem.W.fnOf "write_utf8" "write_utf8" (defArgs sWrite) (defBody sWrite) (defScope sWrite) .none kV_write dc_write pm_write an_write cd_write ct_write), sl_write⟩)
    (c_write : PySem.W.codeIn K cd_write "write_utf8" = true)
    (k_write : PySem.W.keepIn K (.ref f_write) = true)
    (a_answer : PySem.W.nsIn K mainGlobals "answer_lines" = some (some (.ref f_answer)))
    (l_answer : K.lookup f_answer = some ⟨oc_answer, od_answer, .func (PySem.W.fnOf "answer_lines" "answer_lines" (defArgs sAnswer) (defBody sAnswer) (defScope sAnswer) .none kV_answer dc_answer pm_answer an_answer cd_answer ct_answer), sl_answer⟩)
    (c_answer : PySem.W.codeIn K cd_answer "answer_lines" = true)
    (k_answer : PySem.W.keepIn K (.ref f_answer) = true)
    (a_check : PySem.W.nsIn K mainGlobals "check_width" = some (some (.ref f_check)))
    (l_check : K.lookup f_check = some ⟨oc_check, od_check, .func (PySem.W.fnOf "check_width" "check_width" (defArgs sCheck) (defBody sCheck) (defScope sCheck) .none kV_check dc_check pm_check an_check cd_check ct_check), sl_check⟩)
    (c_check : PySem.W.codeIn K cd_check "check_width" = true)
    (k_check : PySem.W.keepIn K (.ref f_check) = true)
    (a_greedy : PySem.W.nsIn K mainGlobals "greedy_counts" = some (some (.ref f_greedy)))
    (l_greedy : K.lookup f_greedy = some ⟨oc_greedy, od_greedy, .func (PySem.W.fnOf "greedy_counts" "greedy_counts" (defArgs sGreedy) (defBody sGreedy) (defScope sGreedy) .none kV_greedy dc_greedy pm_greedy an_greedy cd_greedy ct_greedy), sl_greedy⟩)
    (c_greedy : PySem.W.codeIn K cd_greedy "greedy_counts" = true)
    (k_greedy : PySem.W.keepIn K (.ref f_greedy) = true)
    (a_checked : PySem.W.nsIn K mainGlobals "checked_pieces" = some (some (.ref f_checked)))
    (l_checked : K.lookup f_checked = some ⟨oc_checked, od_checked, .func (PySem.W.fnOf "checked_pieces" "checked_pieces" (defArgs sChecked) (defBody sChecked) (defScope sChecked) .none kV_checked dc_checked pm_checked an_checked cd_checked ct_checked), sl_checked⟩)
    (c_checked : PySem.W.codeIn K cd_checked "checked_pieces" = true)
    (k_checked : PySem.W.keepIn K (.ref f_checked) = true)
    (a_greedyText : PySem.W.nsIn K mainGlobals "greedy_text" = some (some (.ref f_greedyText)))
    (l_greedyText : K.lookup f_greedyText = some ⟨oc_greedyText, od_greedyText, .func (PySem.W.fnOf "greedy_text" "greedy_text" (defArgs sGreedyText) (defBody sGreedyText) (defScope sGreedyText) .none kV_greedyText dc_greedyText pm_greedyText an_greedyText cd_greedyText ct_greedyText), sl_greedyText⟩)
    (c_greedyText : PySem.W.codeIn K cd_greedyText "greedy_text" = true)
    (k_greedyText : PySem.W.keepIn K (.ref f_greedyText) = true)
    (g_CR : PySem.W.nsIn K mainGlobals "Refusal" = some (some (.ref CR)))
    (a_refI : PySem.W.findIn K (.ref CR) "__init__" = some (some (.ref f_refI)))
    (l_refI : K.lookup f_refI = some ⟨oc_refI, od_refI, .func (PySem.W.fnOf "__init__" "Refusal.__init__" (defArgs sRefI) (defBody sRefI) (defScope sRefI) .none kV_refI dc_refI pm_refI an_refI cd_refI ct_refI), sl_refI⟩)
    (c_refI : PySem.W.codeIn K cd_refI "Refusal.__init__" = true)
    (k_refI : PySem.W.keepIn K (.ref f_refI) = true)
    (g_CP : PySem.W.nsIn K mainGlobals "NotPatterns" = some (some (.ref CP)))
    (a_npI : PySem.W.findIn K (.ref CP) "__init__" = some (some (.ref f_npI)))
    (l_npI : K.lookup f_npI = some ⟨oc_npI, od_npI, .func (PySem.W.fnOf "__init__" "NotPatterns.__init__" (defArgs sNpI) (defBody sNpI) (defScope sNpI) .none kV_npI dc_npI pm_npI an_npI cd_npI ct_npI), sl_npI⟩)
    (c_npI : PySem.W.codeIn K cd_npI "NotPatterns.__init__" = true)
    (k_npI : PySem.W.keepIn K (.ref f_npI) = true)
    (g_CO : PySem.W.nsIn K mainGlobals "OutOfRange" = some (some (.ref CO)))
    (a_oorI : PySem.W.findIn K (.ref CO) "__init__" = some (some (.ref f_oorI)))
    (l_oorI : K.lookup f_oorI = some ⟨oc_oorI, od_oorI, .func (PySem.W.fnOf "__init__" "OutOfRange.__init__" (defArgs sOorI) (defBody sOorI) (defScope sOorI) .none kV_oorI dc_oorI pm_oorI an_oorI cd_oorI ct_oorI), sl_oorI⟩)
    (c_oorI : PySem.W.codeIn K cd_oorI "OutOfRange.__init__" = true)
    (k_oorI : PySem.W.keepIn K (.ref f_oorI) = true)
    (g_CU : PySem.W.nsIn K mainGlobals "NotUtf8" = some (some (.ref CU)))
    (a_nuI : PySem.W.findIn K (.ref CU) "__init__" = some (some (.ref f_nuI)))
    (l_nuI : K.lookup f_nuI = some ⟨oc_nuI, od_nuI, .func (PySem.W.fnOf "__init__" "NotUtf8.__init__" (defArgs sNuI) (defBody sNuI) (defScope sNuI) .none kV_nuI dc_nuI pm_nuI an_nuI cd_nuI ct_nuI), sl_nuI⟩)
    (c_nuI : PySem.W.codeIn K cd_nuI "NotUtf8.__init__" = true)
    (k_nuI : PySem.W.keepIn K (.ref f_nuI) = true)
    (g_CT : PySem.W.nsIn K mainGlobals "Pattern" = some (some (.ref CT)))
    (a_patI : PySem.W.findIn K (.ref CT) "__init__" = some (some (.ref f_patI)))
    (l_patI : K.lookup f_patI = some ⟨oc_patI, od_patI, .func (PySem.W.fnOf "__init__" "Pattern.__init__" (defArgs sPatI) (defBody sPatI) (defScope sPatI) .none kV_patI dc_patI pm_patI an_patI cd_patI ct_patI), sl_patI⟩)
    (c_patI : PySem.W.codeIn K cd_patI "Pattern.__init__" = true)
    (k_patI : PySem.W.keepIn K (.ref f_patI) = true)
    (g_CQ : PySem.W.nsIn K mainGlobals "Piece" = some (some (.ref CQ)))
    (a_pieceI : PySem.W.findIn K (.ref CQ) "__init__" = some (some (.ref f_pieceI)))
    (l_pieceI : K.lookup f_pieceI = some ⟨oc_pieceI, od_pieceI, .func (PySem.W.fnOf "__init__" "Piece.__init__" (defArgs sPieceI) (defBody sPieceI) (defScope sPieceI) .none kV_pieceI dc_pieceI pm_pieceI an_pieceI cd_pieceI ct_pieceI), sl_pieceI⟩)
    (c_pieceI : PySem.W.codeIn K cd_pieceI "Piece.__init__" = true)
    (k_pieceI : PySem.W.keepIn K (.ref f_pieceI) = true)
    (rd_CR : PySem.W.readsIn K CR (.type "type") = true)
    (ga_CR : PySem.W.specialIn K (.ref CR) "__getattribute__" = some (some (.builtin "type.__getattribute__")))
    (fc_CR : PySem.W.findCls K (.ref CR) (.type "type") "__init__" = some (.val (.ref f_refI)))
    (ic_CR : PySem.W.isClsIn K CR = true)
    (ex_CR : PySem.W.subIn K (.ref CR) (.type "BaseException") = some true)
    (ty_CR : PySem.W.typeIn K (.ref CR) = some (.type "type"))
    (x_CP : K.lookup CP = some (excClassObj nm_CP qn_CP CP N_CP bs_CP [.ref CR, .type "Exception", .type "BaseException", .type "object"] true sn_CP sub_CP ab_CP col_CP dd_CP m0_CP m1_CP m2_CP m3_CP m5_CP "Exception.__new__"))
    (sa_CP : PySem.W.findIn K (.ref CP) "__setattr__" = some (some (.builtin "object.__setattr__")))
    (ex_CP : PySem.W.subIn K (.ref CP) (.type "BaseException") = some true)
    (ty_CP : PySem.W.typeIn K (.ref CP) = some (.type "type"))
    (kc_CP : PySem.W.keepIn K (.ref CP) = true)
    (no_CP : PySem.W.findIn K (.ref CP) "answer" = some none)
    (tf_CP : PySem.W.typeIn K (.ref f_npI) = some (.type "function"))
    (gt_CP : PySem.W.findIn K (.ref CP) "__getattribute__" = some (some (.builtin "BaseException.__getattribute__")))
    (gg_CP : PySem.W.findIn K (.ref CP) "__getattr__" = some none)
    (hd_CP : PySem.W.hasDictIn K CP = true)
    (su_CP : PySem.W.subIn K (.ref CP) (.ref CR) = some true)
    (x_CO : K.lookup CO = some (excClassObj nm_CO qn_CO CO N_CO bs_CO [.ref CR, .type "Exception", .type "BaseException", .type "object"] true sn_CO sub_CO ab_CO col_CO dd_CO m0_CO m1_CO m2_CO m3_CO m5_CO "Exception.__new__"))
    (sa_CO : PySem.W.findIn K (.ref CO) "__setattr__" = some (some (.builtin "object.__setattr__")))
    (ex_CO : PySem.W.subIn K (.ref CO) (.type "BaseException") = some true)
    (ty_CO : PySem.W.typeIn K (.ref CO) = some (.type "type"))
    (kc_CO : PySem.W.keepIn K (.ref CO) = true)
    (no_CO : PySem.W.findIn K (.ref CO) "answer" = some none)
    (tf_CO : PySem.W.typeIn K (.ref f_oorI) = some (.type "function"))
    (gt_CO : PySem.W.findIn K (.ref CO) "__getattribute__" = some (some (.builtin "BaseException.__getattribute__")))
    (gg_CO : PySem.W.findIn K (.ref CO) "__getattr__" = some none)
    (hd_CO : PySem.W.hasDictIn K CO = true)
    (su_CO : PySem.W.subIn K (.ref CO) (.ref CR) = some true)
    (x_CU : K.lookup CU = some (excClassObj nm_CU qn_CU CU N_CU bs_CU [.ref CR, .type "Exception", .type "BaseException", .type "object"] true sn_CU sub_CU ab_CU col_CU dd_CU m0_CU m1_CU m2_CU m3_CU m5_CU "Exception.__new__"))
    (sa_CU : PySem.W.findIn K (.ref CU) "__setattr__" = some (some (.builtin "object.__setattr__")))
    (ex_CU : PySem.W.subIn K (.ref CU) (.type "BaseException") = some true)
    (ty_CU : PySem.W.typeIn K (.ref CU) = some (.type "type"))
    (kc_CU : PySem.W.keepIn K (.ref CU) = true)
    (no_CU : PySem.W.findIn K (.ref CU) "answer" = some none)
    (tf_CU : PySem.W.typeIn K (.ref f_nuI) = some (.type "function"))
    (gt_CU : PySem.W.findIn K (.ref CU) "__getattribute__" = some (some (.builtin "BaseException.__getattribute__")))
    (gg_CU : PySem.W.findIn K (.ref CU) "__getattr__" = some none)
    (hd_CU : PySem.W.hasDictIn K CU = true)
    (su_CU : PySem.W.subIn K (.ref CU) (.ref CR) = some true)
    (pg_CT : PySem.W.plainGet K CT Str.empty = true)
    (hd_CT : PySem.W.hasDictIn K CT = true)
    (po_CT : PySem.W.plainOver K CT = true)
    (sa_CT : PySem.W.findIn K (.ref CT) "__setattr__" = some (some (.builtin "object.__setattr__")))
    (n_CT_letters : PySem.W.findIn K (.ref CT) "letters" = some none)
    (n_CT_levels : PySem.W.findIn K (.ref CT) "levels" = some none)
    (mk_CT : PySem.W.makesIn K CT = true)
    (if_CT : PySem.W.isFn K (.ref f_patI) = true)
    (kc_CT : PySem.W.keepIn K (.ref CT) = true)
    (pg_CQ : PySem.W.plainGet K CQ Str.empty = true)
    (hd_CQ : PySem.W.hasDictIn K CQ = true)
    (po_CQ : PySem.W.plainOver K CQ = true)
    (sa_CQ : PySem.W.findIn K (.ref CQ) "__setattr__" = some (some (.builtin "object.__setattr__")))
    (n_CQ_characters : PySem.W.findIn K (.ref CQ) "characters" = some none)
    (n_CQ_joint : PySem.W.findIn K (.ref CQ) "joint" = some none)
    (mk_CQ : PySem.W.makesIn K CQ = true)
    (if_CQ : PySem.W.isFn K (.ref f_pieceI) = true)
    (kc_CQ : PySem.W.keepIn K (.ref CQ) = true) :
    ∃ fd : FuncData, (∀ (s : Shared) (us : List Value), us.length = (["width", "patterns", "text"] : List Str).length → BindsTo s fd ⟨us, []⟩ ((["width", "patterns", "text"] : List Str).zip us)) ∧ ∀ base : Heap, K.In base → base.Ns mainGlobals mg → FnOk P w K mg base CX0 18 fa fd ["width", "patterns", "text"] (spGreedyText K) := by
  have e := hfa.symm.trans (PySem.W.mg_of X G a_greedyText)
  cases e
  have F_white := fun_mk (st := sWhite) l_white c_white k_white
  have F_isChar := fun_mk (st := sIsChar) l_isChar c_isChar k_isChar
  have F_digit := fun_mk (st := sDigit) l_digit c_digit k_digit
  have F_cap := fun_mk (st := sCap) l_cap c_cap k_cap
  have F_small := fun_mk (st := sSmall) l_small c_small k_small
  have F_letter := fun_mk (st := sLetter) l_letter c_letter k_letter
  have F_lower := fun_mk (st := sLower) l_lower c_lower k_lower
  have F_words := fun_mk (st := sWords) l_words c_words k_words
  have F_pat := fun_mk (st := sPat) l_pat c_pat k_pat
  have F_pats := fun_mk (st := sPats) l_pats c_pats k_pats
  have F_size := fun_mk (st := sSize) l_size c_size k_size
  have F_seq := fun_mk (st := sSeq) l_seq c_seq k_seq
  have F_read := fun_mk (st := sRead) l_read c_read k_read
  have F_lev := fun_mk (st := sLev) l_lev c_lev k_lev
  have F_pos := fun_mk (st := sPos) l_pos c_pos k_pos
  have F_parts := fun_mk (st := sParts) l_parts c_parts k_parts
  have F_pcPart := fun_mk (st := sPcPart) l_pcPart c_pcPart k_pcPart
  have F_pcWord := fun_mk (st := sPcWord) l_pcWord c_pcWord k_pcWord
  have F_pieces := fun_mk (st := sPieces) l_pieces c_pieces k_pieces
  have F_line := fun_mk (st := sLine) l_line c_line k_line
  have F_lines := fun_mk (st := sLinesOf) l_lines c_lines k_lines
  have F_allowed := fun_mk (st := sAllowed) l_allowed c_allowed k_allowed
  have F_writeSeq := fun_mk (st := sWriteSeq) l_writeSeq c_writeSeq k_writeSeq
  have F_write := fun_mk (st := sWrite) l_write c_write k_write
  have F_answer := fun_mk (st := sAnswer) l_answer c_answer k_answer
  have F_check := fun_mk (st := sCheck) l_check c_check k_check
  have F_greedy := fun_mk (st := sGreedy) l_greedy c_greedy k_greedy
  have F_checked := fun_mk (st := sChecked) l_checked c_checked k_checked
  have F_greedyText := fun_mk (st := sGreedyText) l_greedyText c_greedyText k_greedyText
  have F_refI := fun_mk (st := sRefI) l_refI c_refI k_refI
  have F_npI := fun_mk (st := sNpI) l_npI c_npI k_npI
  have F_oorI := fun_mk (st := sOorI) l_oorI c_oorI k_oorI
  have F_nuI := fun_mk (st := sNuI) l_nuI c_nuI k_nuI
  have F_patI := fun_mk (st := sPatI) l_patI c_patI k_patI
  have F_pieceI := fun_mk (st := sPieceI) l_pieceI c_pieceI k_pieceI
  have b_white := F_white.binds (ps := ["code"]) fun _ _ _ _ _ _ us hl => match us, hl with | [_], _ => rfl
  have b_isChar := F_isChar.binds (ps := ["code"]) fun _ _ _ _ _ _ us hl => match us, hl with | [_], _ => rfl
  have b_digit := F_digit.binds (ps := ["code"]) fun _ _ _ _ _ _ us hl => match us, hl with | [_], _ => rfl
  have b_cap := F_cap.binds (ps := ["code"]) fun _ _ _ _ _ _ us hl => match us, hl with | [_], _ => rfl
  have b_small := F_small.binds (ps := ["code"]) fun _ _ _ _ _ _ us hl => match us, hl with | [_], _ => rfl
  have b_letter := F_letter.binds (ps := ["code"]) fun _ _ _ _ _ _ us hl => match us, hl with | [_], _ => rfl
  have b_lower := F_lower.binds (ps := ["letter"]) fun _ _ _ _ _ _ us hl => match us, hl with | [_], _ => rfl
  have b_words := F_words.binds (ps := ["text"]) fun _ _ _ _ _ _ us hl => match us, hl with | [_], _ => rfl
  have b_pat := F_pat.binds (ps := ["word"]) fun _ _ _ _ _ _ us hl => match us, hl with | [_], _ => rfl
  have b_pats := F_pats.binds (ps := ["text"]) fun _ _ _ _ _ _ us hl => match us, hl with | [_], _ => rfl
  have b_size := F_size.binds (ps := ["lead"]) fun _ _ _ _ _ _ us hl => match us, hl with | [_], _ => rfl
  have b_seq := F_seq.binds (ps := ["octets", "size"]) fun _ _ _ _ _ _ us hl => match us, hl with | [_, _], _ => rfl
  have b_read := F_read.binds (ps := ["octets"]) fun _ _ _ _ _ _ us hl => match us, hl with | [_], _ => rfl
  have b_lev := F_lev.binds (ps := ["patterns", "dotted"]) fun _ _ _ _ _ _ us hl => match us, hl with | [_, _], _ => rfl
  have b_pos := F_pos.binds (ps := ["patterns", "word"]) fun _ _ _ _ _ _ us hl => match us, hl with | [_, _], _ => rfl
  have b_parts := F_parts.binds (ps := ["word"]) fun _ _ _ _ _ _ us hl => match us, hl with | [_], _ => rfl
  have b_pcPart := F_pcPart.binds (ps := ["patterns", "part", "last_joint"]) fun _ _ _ _ _ _ us hl => match us, hl with | [_, _, _], _ => rfl
  have b_pcWord := F_pcWord.binds (ps := ["patterns", "word"]) fun _ _ _ _ _ _ us hl => match us, hl with | [_, _], _ => rfl
  have b_pieces := F_pieces.binds (ps := ["patterns", "text"]) fun _ _ _ _ _ _ us hl => match us, hl with | [_, _], _ => rfl
  have b_line := F_line.binds (ps := ["pieces"]) fun _ _ _ _ _ _ us hl => match us, hl with | [_], _ => rfl
  have b_lines := F_lines.binds (ps := ["pieces", "counts"]) fun _ _ _ _ _ _ us hl => match us, hl with | [_, _], _ => rfl
  have b_allowed := F_allowed.binds (ps := ["width", "pieces", "start"]) fun _ _ _ _ _ _ us hl => match us, hl with | [_, _, _], _ => rfl
  have b_writeSeq := F_writeSeq.binds (ps := ["code"]) fun _ _ _ _ _ _ us hl => match us, hl with | [_], _ => rfl
  have b_write := F_write.binds (ps := ["text"]) fun _ _ _ _ _ _ us hl => match us, hl with | [_], _ => rfl
  have b_answer := F_answer.binds (ps := ["lines"]) fun _ _ _ _ _ _ us hl => match us, hl with | [_], _ => rfl
  have b_check := F_check.binds (ps := ["width"]) fun _ _ _ _ _ _ us hl => match us, hl with | [_], _ => rfl
  have b_greedy := F_greedy.binds (ps := ["width", "pieces"]) fun _ _ _ _ _ _ us hl => match us, hl with | [_, _], _ => rfl
  have b_checked := F_checked.binds (ps := ["width", "patterns", "text"]) fun _ _ _ _ _ _ us hl => match us, hl with | [_, _, _], _ => rfl
  have b_refI := F_refI.binds (ps := ["self", "answer"]) fun _ _ _ _ _ _ us hl => match us, hl with | [_, _], _ => rfl
  have b_npI := F_npI.binds (ps := ["self"]) fun _ _ _ _ _ _ us hl => match us, hl with | [_], _ => rfl
  have b_oorI := F_oorI.binds (ps := ["self"]) fun _ _ _ _ _ _ us hl => match us, hl with | [_], _ => rfl
  have b_nuI := F_nuI.binds (ps := ["self"]) fun _ _ _ _ _ _ us hl => match us, hl with | [_], _ => rfl
  have b_patI := F_patI.binds (ps := ["self", "letters", "levels"]) fun _ _ _ _ _ _ us hl => match us, hl with | [_, _, _], _ => rfl
  have b_pieceI := F_pieceI.binds (ps := ["self", "characters", "joint"]) fun _ _ _ _ _ _ us hl => match us, hl with | [_, _, _], _ => rfl
  have m_white := PySem.W.mg_of X G a_white
  have m_isChar := PySem.W.mg_of X G a_isChar
  have m_digit := PySem.W.mg_of X G a_digit
  have m_cap := PySem.W.mg_of X G a_cap
  have m_small := PySem.W.mg_of X G a_small
  have m_letter := PySem.W.mg_of X G a_letter
  have m_lower := PySem.W.mg_of X G a_lower
  have m_words := PySem.W.mg_of X G a_words
  have m_pat := PySem.W.mg_of X G a_pat
  have m_pats := PySem.W.mg_of X G a_pats
  have m_size := PySem.W.mg_of X G a_size
  have m_seq := PySem.W.mg_of X G a_seq
  have m_read := PySem.W.mg_of X G a_read
  have m_lev := PySem.W.mg_of X G a_lev
  have m_pos := PySem.W.mg_of X G a_pos
  have m_parts := PySem.W.mg_of X G a_parts
  have m_pcPart := PySem.W.mg_of X G a_pcPart
  have m_pcWord := PySem.W.mg_of X G a_pcWord
  have m_pieces := PySem.W.mg_of X G a_pieces
  have m_line := PySem.W.mg_of X G a_line
  have m_lines := PySem.W.mg_of X G a_lines
  have m_allowed := PySem.W.mg_of X G a_allowed
  have m_writeSeq := PySem.W.mg_of X G a_writeSeq
  have m_write := PySem.W.mg_of X G a_write
  have m_answer := PySem.W.mg_of X G a_answer
  have m_check := PySem.W.mg_of X G a_check
  have m_greedy := PySem.W.mg_of X G a_greedy
  have m_checked := PySem.W.mg_of X G a_checked
  have TW : TWh mg := ⟨⟨_, PySem.W.mg_of X G i_TAB⟩, ⟨_, PySem.W.mg_of X G i_LINE_FEED⟩, ⟨_, PySem.W.mg_of X G i_CARRIAGE_RETURN⟩, ⟨_, PySem.W.mg_of X G i_BLANK⟩⟩
  have TC : TChr mg := ⟨TW, ⟨_, PySem.W.mg_of X G i_DIGIT_0⟩, ⟨_, PySem.W.mg_of X G i_DIGIT_9⟩, ⟨_, PySem.W.mg_of X G i_CAPITAL_A⟩, ⟨_, PySem.W.mg_of X G i_CAPITAL_Z⟩, ⟨_, PySem.W.mg_of X G i_SMALL_A⟩, ⟨_, PySem.W.mg_of X G i_SMALL_Z⟩⟩
  have TP : TPat K mg CT := ⟨⟨pg_CT, hd_CT, po_CT, sa_CT⟩, n_CT_letters, n_CT_levels, PySem.W.mg_of X G g_CT, ⟨_, PySem.W.mg_of X G i_POINT⟩⟩
  have TQ : TPc K mg CQ := ⟨⟨pg_CQ, hd_CQ, po_CQ, sa_CQ⟩, n_CQ_characters, n_CQ_joint, PySem.W.mg_of X G g_CQ, ⟨_, PySem.W.mg_of X G i_HYPHEN⟩, ⟨_, PySem.W.mg_of X G s_SPACE_JOINT⟩, ⟨_, PySem.W.mg_of X G s_PLAIN_JOINT⟩, ⟨_, PySem.W.mg_of X G s_HYPHEN_JOINT⟩⟩
  have TS : TupG K mg "SMALLEST" [0, 0, 128, 2048, 65536] := ⟨t_SMALLEST, PySem.W.mg_of X G g_t_SMALLEST, fun H => .inr ⟨_, _, _, l_t_SMALLEST, rfl, rfl, (by show 5 ≤ sizeLine; decide), (.cons ⟨_, rfl⟩ (.cons ⟨_, rfl⟩ (.cons ⟨_, rfl⟩ (.cons ⟨_, rfl⟩ (.cons ⟨_, rfl⟩ .nil)))))⟩⟩
  have TL : TupG K mg "LEADS" [0, 0, 192, 224, 240] := ⟨t_LEADS, PySem.W.mg_of X G g_t_LEADS, fun H => .inr ⟨_, _, _, l_t_LEADS, rfl, rfl, (by show 5 ≤ sizeLine; decide), (.cons ⟨_, rfl⟩ (.cons ⟨_, rfl⟩ (.cons ⟨_, rfl⟩ (.cons ⟨_, rfl⟩ (.cons ⟨_, rfl⟩ .nil)))))⟩⟩
  have E_CP : ErrC K CP := ⟨⟨_, _, _, _, _, _, _, _, _, _, _, _, _, _, _, x_CP, ⟨[CR], rfl⟩⟩, sa_CP, ex_CP, ty_CP, kc_CP⟩
  have c_CP : Caught K CP CR := ⟨⟨gt_CP, gg_CP, ex_CP, hd_CP⟩, no_CP, exm_named ex_CR ic_CR ty_CR su_CP⟩
  have E_CO : ErrC K CO := ⟨⟨_, _, _, _, _, _, _, _, _, _, _, _, _, _, _, x_CO, ⟨[CR], rfl⟩⟩, sa_CO, ex_CO, ty_CO, kc_CO⟩
  have c_CO : Caught K CO CR := ⟨⟨gt_CO, gg_CO, ex_CO, hd_CO⟩, no_CO, exm_named ex_CR ic_CR ty_CR su_CO⟩
  have E_CU : ErrC K CU := ⟨⟨_, _, _, _, _, _, _, _, _, _, _, _, _, _, _, x_CU, ⟨[CR], rfl⟩⟩, sa_CU, ex_CU, ty_CU, kc_CU⟩
  have c_CU : Caught K CU CR := ⟨⟨gt_CU, gg_CU, ex_CU, hd_CU⟩, no_CU, exm_named ex_CR ic_CR ty_CR su_CU⟩
  exact ⟨PySem.W.fnOf "greedy_text" "greedy_text" (defArgs sGreedyText) (defBody sGreedyText) (defScope sGreedyText) .none kV_greedyText dc_greedyText pm_greedyText an_greedyText cd_greedyText ct_greedyText, fun s us hu => match us, hu with | [_, _, _], _ => .of_eq rfl, fun base _ _ => by
    have no_ := fun {x : Str} (e : PySem.W.nsIn K mainGlobals x = some none) => PySem.W.mg_none_of X G e
    have B : BaseI P w K mg base := ⟨CR, f_refI, _, _, PySem.W.mg_of X G g_CR, ⟨rd_CR, ga_CR⟩, ⟨fc_CR, rfl⟩, k_refI, b_refI, ok_refI F_refI⟩
    have EP : Err P w K mg base "NotPatterns" CP (-21) := ⟨E_CP, PySem.W.mg_of X G g_CP, f_npI, _, a_npI, tf_CP, b_npI, ok_npI F_npI E_CP no_CP B⟩
    have EO : Err P w K mg base "OutOfRange" CO (-22) := ⟨E_CO, PySem.W.mg_of X G g_CO, f_oorI, _, a_oorI, tf_CO, b_oorI, ok_oorI F_oorI E_CO no_CO B⟩
    have EU : Err P w K mg base "NotUtf8" CU (-24) := ⟨E_CU, PySem.W.mg_of X G g_CU, f_nuI, _, a_nuI, tf_CU, b_nuI, ok_nuI F_nuI E_CU no_CU B⟩
    have GI : FnOk P w K mg base CX0 1 f_patI _ ["self", "letters", "levels"] (spPatI CT) := ok_patI F_patI TP
    have GQ : FnOk P w K mg base CX0 1 f_pieceI _ ["self", "characters", "joint"] (spPieceI CQ) := ok_pieceI F_pieceI TQ
    have D_white := Def.mk (k := 1) m_white F_white b_white (ok_white (P := P) (w := w) (base := base) F_white TW) (by decide)
    have D_isChar := Def.mk (k := 1) m_isChar F_isChar b_isChar (ok_isChar (P := P) (w := w) (base := base) F_isChar ⟨_, PySem.W.mg_of X G i_GREATEST_CHARACTER⟩ ⟨_, PySem.W.mg_of X G i_FIRST_SURROGATE⟩ ⟨_, PySem.W.mg_of X G i_LAST_SURROGATE⟩) (by decide)
    have D_digit := Def.mk (k := 1) m_digit F_digit b_digit (ok_digit (P := P) (w := w) (base := base) F_digit TC) (by decide)
    have D_cap := Def.mk (k := 1) m_cap F_cap b_cap (ok_cap (P := P) (w := w) (base := base) F_cap TC) (by decide)
    have D_small := Def.mk (k := 1) m_small F_small b_small (ok_small (P := P) (w := w) (base := base) F_small TC) (by decide)
    have D_letter := Def.mk (k := 2) m_letter F_letter b_letter (ok_letter F_letter D_small D_cap) (by decide)
    have D_lower := Def.mk (k := 2) m_lower F_lower b_lower (ok_lower F_lower TC D_cap) (by decide)
    have D_words := Def.mk (k := 4) m_words F_words b_words (ok_words F_words D_white) (by decide)
    have D_pat := Def.mk (k := 8) m_pat F_pat b_pat (ok_pat F_pat TP TC ⟨mk_CT, a_patI, if_CT, kc_CT⟩ GI b_patI EP D_digit D_small) (by decide)
    have D_pats := Def.mk (k := 12) m_pats F_pats b_pats (ok_pats F_pats D_words D_pat) (by decide)
    have D_size := Def.mk (k := 6) m_size F_size b_size (ok_size F_size EU) (by decide)
    have D_seq := Def.mk (k := 6) m_seq F_seq b_seq (ok_seq F_seq EU (no_ n_len) D_isChar TL TS) (by decide)
    have D_read := Def.mk (k := 10) m_read F_read b_read (ok_read F_read (no_ n_len) D_size D_seq) (by decide)
    have D_lev := Def.mk (k := 2) m_lev F_lev b_lev (ok_lev (P := P) (w := w) (base := base) F_lev TP (no_ n_len) (no_ n_range) (no_ n_max)) (by decide)
    have D_pos := Def.mk (k := 6) m_pos F_pos b_pos (ok_pos F_pos TP (no_ n_all) (no_ n_len) (no_ n_range) ⟨_, PySem.W.mg_of X G i_LEAST_LETTERS⟩ D_letter D_lower D_lev) (by decide)
    have D_parts := Def.mk (k := 2) m_parts F_parts b_parts (ok_parts (P := P) (w := w) (base := base) F_parts TQ (no_ n_len) (no_ n_range)) (by decide)
    have D_pcPart := Def.mk (k := 8) m_pcPart F_pcPart b_pcPart (ok_pcPart F_pcPart TQ ⟨mk_CQ, a_pieceI, if_CQ, kc_CQ⟩ GQ b_pieceI D_pos) (by decide)
    have D_pcWord := Def.mk (k := 10) m_pcWord F_pcWord b_pcWord (ok_pcWord F_pcWord TQ D_parts D_pcPart) (by decide)
    have D_pieces := Def.mk (k := 12) m_pieces F_pieces b_pieces (ok_pieces F_pieces TQ D_words D_pcWord) (by decide)
    have D_line := Def.mk (k := 2) m_line F_line b_line (ok_line (P := P) (w := w) (base := base) F_line TQ ⟨_, PySem.W.mg_of X G i_BLANK⟩) (by decide)
    have D_lines := Def.mk (k := 4) m_lines F_lines b_lines (ok_lines F_lines D_line) (by decide)
    have D_allowed := Def.mk (k := 2) m_allowed F_allowed b_allowed (ok_allowed (P := P) (w := w) (base := base) F_allowed TQ (no_ n_len)) (by decide)
    have D_writeSeq := Def.mk (k := 2) m_writeSeq F_writeSeq b_writeSeq (ok_writeSeq (P := P) (w := w) (base := base) F_writeSeq (no_ n_len) TL TS) (by decide)
    have D_write := Def.mk (k := 4) m_write F_write b_write (ok_write F_write D_writeSeq) (by decide)
    have D_answer := Def.mk (k := 6) m_answer F_answer b_answer (ok_answer F_answer (no_ n_len) (no_ n_enumerate) ⟨_, PySem.W.mg_of X G i_LINE_FEED⟩ D_write) (by decide)
    have D_check := Def.mk (k := 6) m_check F_check b_check (ok_check F_check EO ⟨_, PySem.W.mg_of X G i_LEAST_WIDTH⟩ ⟨_, PySem.W.mg_of X G i_GREATEST_WIDTH⟩) (by decide)
    have D_greedy := Def.mk (k := 4) m_greedy F_greedy b_greedy (ok_greedy F_greedy (no_ n_len) D_allowed) (by decide)
    have D_checked := Def.mk (k := 14) m_checked F_checked b_checked (ok_checked F_checked D_check D_read D_pats D_pieces) (by decide)
    exact ok_greedyText F_greedyText (PySem.W.mg_of X G g_CR) ⟨c_CO, c_CP, c_CU⟩ D_checked D_greedy D_lines D_answer⟩
theorem in_bytes {l : List Int} (h : l.all (PySem.W.Codec.inInt 0 255) = true) : ∀ x ∈ l, 0 ≤ x ∧ x ≤ 255 := fun x hx => by
  have q := List.all_eq_true.mp h x hx
  unfold PySem.W.Codec.inInt at q
  simpa using q
theorem in_words {l : List Int} (h : l.all (PySem.W.Codec.inInt 0 4294967295) = true) : ∀ x ∈ l, 0 ≤ x := fun x hx => by
  have q := List.all_eq_true.mp h x hx
  unfold PySem.W.Codec.inInt at q
  have q2 : 0 ≤ x ∧ x ≤ 4294967295 := by simpa using q
  exact q2.1
theorem in_word {x : Int} (h : PySem.W.Codec.inInt 0 4294967295 x = true) : ∃ n : Nat, x = n := by
  unfold PySem.W.Codec.inInt at h
  have q : 0 ≤ x ∧ x ≤ 4294967295 := by simpa using h
  exact ⟨x.toNat, (Int.toNat_of_nonneg q.1).symm⟩

end Pl
open PySem PySem.W PyProof.Rows
set_option maxRecDepth 100000 in
set_option maxHeartbeats 8000000 in
theorem PySem.Challenge.cw_plainlayout_s04_greedy_text_holds : PySem.Challenge.rw_plainlayout_s04_greedy_text.Holds := by
  w_on; k_headS; (case hw => exact ⟨[.int 0, .list [], .list []], by decide +kernel, by decide +kernel⟩)
  k_fillS
  refine L2.walk_specK (r := PySem.Challenge.rw_plainlayout_s04_greedy_text) (k := 18) (CX := L2.CX0) (ps := ["width", "patterns", "text"]) (sp := Pl.spGreedyText) (by decide +kernel) rfl rfl ⟨rfl, by decide, by decide⟩ (fun w h Y => PySem.W.kIn_of Y) ?F ?S (fun _ _ _ _ z => z)
  case F =>
    intro w mg fa h Y KX G hmg
    refine' Pl.all_mk KX G hmg ?i_TAB ?i_LINE_FEED ?i_CARRIAGE_RETURN ?i_BLANK ?i_HYPHEN ?i_POINT ?i_DIGIT_0 ?i_DIGIT_9 ?i_CAPITAL_A ?i_CAPITAL_Z ?i_SMALL_A ?i_SMALL_Z ?i_GREATEST_CHARACTER ?i_FIRST_SURROGATE ?i_LAST_SURROGATE ?i_LEAST_LETTERS ?i_LEAST_WIDTH ?i_GREATEST_WIDTH ?s___name__ ?s_SPACE_JOINT ?s_PLAIN_JOINT ?s_HYPHEN_JOINT ?n_len ?n_range ?n_max ?n_all ?n_enumerate ?g_t_SMALLEST ?l_t_SMALLEST ?g_t_LEADS ?l_t_LEADS ?a_white ?l_white ?c_white ?k_white ?a_isChar ?l_isChar ?c_isChar ?k_isChar ?a_digit ?l_digit ?c_digit ?k_digit ?a_cap ?l_cap ?c_cap ?k_cap ?a_small ?l_small ?c_small ?k_small ?a_letter ?l_letter ?c_letter ?k_letter ?a_lower ?l_lower ?c_lower ?k_lower ?a_words ?l_words ?c_words ?k_words ?a_pat ?l_pat ?c_pat ?k_pat ?a_pats ?l_pats ?c_pats ?k_pats ?a_size ?l_size ?c_size ?k_size ?a_seq ?l_seq ?c_seq ?k_seq ?a_read ?l_read ?c_read ?k_read ?a_lev ?l_lev ?c_lev ?k_lev ?a_pos ?l_pos ?c_pos ?k_pos ?a_parts ?l_parts ?c_parts ?k_parts ?a_pcPart ?l_pcPart ?c_pcPart ?k_pcPart ?a_pcWord ?l_pcWord ?c_pcWord ?k_pcWord ?a_pieces ?l_pieces ?c_pieces ?k_pieces ?a_line ?l_line ?c_line ?k_line ?a_lines ?l_lines ?c_lines ?k_lines ?a_allowed ?l_allowed ?c_allowed ?k_allowed ?a_writeSeq ?l_writeSeq ?c_writeSeq ?k_writeSeq ?a_write ?l_write ?c_write ?k_write ?a_answer ?l_answer ?c_answer ?k_answer ?a_check ?l_check ?c_check ?k_check ?a_greedy ?l_greedy ?c_greedy ?k_greedy ?a_checked ?l_checked ?c_checked ?k_checked ?a_greedyText ?l_greedyText ?c_greedyText ?k_greedyText ?g_CR ?a_refI ?l_refI ?c_refI ?k_refI ?g_CP ?a_npI ?l_npI ?c_npI ?k_npI ?g_CO ?a_oorI ?l_oorI ?c_oorI ?k_oorI ?g_CU ?a_nuI ?l_nuI ?c_nuI ?k_nuI ?g_CT ?a_patI ?l_patI ?c_patI ?k_patI ?g_CQ ?a_pieceI ?l_pieceI ?c_pieceI ?k_pieceI ?rd_CR ?ga_CR ?fc_CR ?ic_CR ?ex_CR ?ty_CR ?x_CP ?sa_CP ?ex_CP ?ty_CP ?kc_CP ?no_CP ?tf_CP ?gt_CP ?gg_CP ?hd_CP ?su_CP ?x_CO ?sa_CO ?ex_CO ?ty_CO ?kc_CO ?no_CO ?tf_CO ?gt_CO ?gg_CO ?hd_CO ?su_CO ?x_CU ?sa_CU ?ex_CU ?ty_CU ?kc_CU ?no_CU ?tf_CU ?gt_CU ?gg_CU ?hd_CU ?su_CU ?pg_CT ?hd_CT ?po_CT ?sa_CT ?n_CT_letters ?n_CT_levels ?mk_CT ?if_CT ?kc_CT ?pg_CQ ?hd_CQ ?po_CQ ?sa_CQ ?n_CQ_characters ?n_CQ_joint ?mk_CQ ?if_CQ ?kc_CQ
    (case i_TAB => first | k_is | rfl)
    (case i_LINE_FEED => first | k_is | rfl)
    (case i_CARRIAGE_RETURN => first | k_is | rfl)
    (case i_BLANK => first | k_is | rfl)
    (case i_HYPHEN => first | k_is | rfl)
    (case i_POINT => first | k_is | rfl)
    (case i_DIGIT_0 => first | k_is | rfl)
    (case i_DIGIT_9 => first | k_is | rfl)
    (case i_CAPITAL_A => first | k_is | rfl)
    (case i_CAPITAL_Z => first | k_is | rfl)
    (case i_SMALL_A => first | k_is | rfl)
    (case i_SMALL_Z => first | k_is | rfl)
    (case i_GREATEST_CHARACTER => first | k_is | rfl)
    (case i_FIRST_SURROGATE => first | k_is | rfl)
    (case i_LAST_SURROGATE => first | k_is | rfl)
    (case i_LEAST_LETTERS => first | k_is | rfl)
    (case i_LEAST_WIDTH => first | k_is | rfl)
    (case i_GREATEST_WIDTH => first | k_is | rfl)
    (case s___name__ => first | k_is | rfl)
    (case s_SPACE_JOINT => first | k_is | rfl)
    (case s_PLAIN_JOINT => first | k_is | rfl)
    (case s_HYPHEN_JOINT => first | k_is | rfl)
    (case n_len => first | k_is | rfl)
    (case n_range => first | k_is | rfl)
    (case n_max => first | k_is | rfl)
    (case n_all => first | k_is | rfl)
    (case n_enumerate => first | k_is | rfl)
    (case g_t_SMALLEST => first | k_is | rfl)
    (case l_t_SMALLEST => first | k_is | rfl)
    (case g_t_LEADS => first | k_is | rfl)
    (case l_t_LEADS => first | k_is | rfl)
    (case a_white => first | k_is | rfl)
    (case l_white => first | k_is | rfl)
    (case c_white => first | k_is | rfl)
    (case k_white => first | k_is | rfl)
    (case a_isChar => first | k_is | rfl)
    (case l_isChar => first | k_is | rfl)
    (case c_isChar => first | k_is | rfl)
    (case k_isChar => first | k_is | rfl)
    (case a_digit => first | k_is | rfl)
    (case l_digit => first | k_is | rfl)
    (case c_digit => first | k_is | rfl)
    (case k_digit => first | k_is | rfl)
    (case a_cap => first | k_is | rfl)
    (case l_cap => first | k_is | rfl)
    (case c_cap => first | k_is | rfl)
    (case k_cap => first | k_is | rfl)
    (case a_small => first | k_is | rfl)
    (case l_small => first | k_is | rfl)
    (case c_small => first | k_is | rfl)
    (case k_small => first | k_is | rfl)
    (case a_letter => first | k_is | rfl)
    (case l_letter => first | k_is | rfl)
    (case c_letter => first | k_is | rfl)
    (case k_letter => first | k_is | rfl)
    (case a_lower => first | k_is | rfl)
    (case l_lower => first | k_is | rfl)
    (case c_lower => first | k_is | rfl)
    (case k_lower => first | k_is | rfl)
    (case a_words => first | k_is | rfl)
    (case l_words => first | k_is | rfl)
    (case c_words => first | k_is | rfl)
    (case k_words => first | k_is | rfl)
    (case a_pat => first | k_is | rfl)
    (case l_pat => first | k_is | rfl)
    (case c_pat => first | k_is | rfl)
    (case k_pat => first | k_is | rfl)
    (case a_pats => first | k_is | rfl)
    (case l_pats => first | k_is | rfl)
    (case c_pats => first | k_is | rfl)
    (case k_pats => first | k_is | rfl)
    (case a_size => first | k_is | rfl)
    (case l_size => first | k_is | rfl)
    (case c_size => first | k_is | rfl)
    (case k_size => first | k_is | rfl)
    (case a_seq => first | k_is | rfl)
    (case l_seq => first | k_is | rfl)
    (case c_seq => first | k_is | rfl)
    (case k_seq => first | k_is | rfl)
    (case a_read => first | k_is | rfl)
    (case l_read => first | k_is | rfl)
    (case c_read => first | k_is | rfl)
    (case k_read => first | k_is | rfl)
    (case a_lev => first | k_is | rfl)
    (case l_lev => first | k_is | rfl)
    (case c_lev => first | k_is | rfl)
    (case k_lev => first | k_is | rfl)
    (case a_pos => first | k_is | rfl)
    (case l_pos => first | k_is | rfl)
    (case c_pos => first | k_is | rfl)
    (case k_pos => first | k_is | rfl)
    (case a_parts => first | k_is | rfl)
    (case l_parts => first | k_is | rfl)
    (case c_parts => first | k_is | rfl)
    (case k_parts => first | k_is | rfl)
    (case a_pcPart => first | k_is | rfl)
    (case l_pcPart => first | k_is | rfl)
    (case c_pcPart => first | k_is | rfl)
    (case k_pcPart => first | k_is | rfl)
    (case a_pcWord => first | k_is | rfl)
    (case l_pcWord => first | k_is | rfl)
    (case c_pcWord => first | k_is | rfl)
    (case k_pcWord => first | k_is | rfl)
    (case a_pieces => first | k_is | rfl)
    (case l_pieces => first | k_is | rfl)
    (case c_pieces => first | k_is | rfl)
    (case k_pieces => first | k_is | rfl)
    (case a_line => first | k_is | rfl)
    (case l_line => first | k_is | rfl)
    (case c_line => first | k_is | rfl)
    (case k_line => first | k_is | rfl)
    (case a_lines => first | k_is | rfl)
    (case l_lines => first | k_is | rfl)
    (case c_lines => first | k_is | rfl)
    (case k_lines => first | k_is | rfl)
    (case a_allowed => first | k_is | rfl)
    (case l_allowed => first | k_is | rfl)
    (case c_allowed => first | k_is | rfl)
    (case k_allowed => first | k_is | rfl)
    (case a_writeSeq => first | k_is | rfl)
    (case l_writeSeq => first | k_is | rfl)
    (case c_writeSeq => first | k_is | rfl)
    (case k_writeSeq => first | k_is | rfl)
    (case a_write => first | k_is | rfl)
    (case l_write => first | k_is | rfl)
    (case c_write => first | k_is | rfl)
    (case k_write => first | k_is | rfl)
    (case a_answer => first | k_is | rfl)
    (case l_answer => first | k_is | rfl)
    (case c_answer => first | k_is | rfl)
    (case k_answer => first | k_is | rfl)
    (case a_check => first | k_is | rfl)
    (case l_check => first | k_is | rfl)
    (case c_check => first | k_is | rfl)
    (case k_check => first | k_is | rfl)
    (case a_greedy => first | k_is | rfl)
    (case l_greedy => first | k_is | rfl)
    (case c_greedy => first | k_is | rfl)
    (case k_greedy => first | k_is | rfl)
    (case a_checked => first | k_is | rfl)
    (case l_checked => first | k_is | rfl)
    (case c_checked => first | k_is | rfl)
    (case k_checked => first | k_is | rfl)
    (case a_greedyText => first | k_is | rfl)
    (case l_greedyText => first | k_is | rfl)
    (case c_greedyText => first | k_is | rfl)
    (case k_greedyText => first | k_is | rfl)
    (case g_CR => first | k_is | rfl)
    (case a_refI => first | k_is | rfl)
    (case l_refI => first | k_is | rfl)
    (case c_refI => first | k_is | rfl)
    (case k_refI => first | k_is | rfl)
    (case g_CP => first | k_is | rfl)
    (case a_npI => first | k_is | rfl)
    (case l_npI => first | k_is | rfl)
    (case c_npI => first | k_is | rfl)
    (case k_npI => first | k_is | rfl)
    (case g_CO => first | k_is | rfl)
    (case a_oorI => first | k_is | rfl)
    (case l_oorI => first | k_is | rfl)
    (case c_oorI => first | k_is | rfl)
    (case k_oorI => first | k_is | rfl)
    (case g_CU => first | k_is | rfl)
    (case a_nuI => first | k_is | rfl)
    (case l_nuI => first | k_is | rfl)
    (case c_nuI => first | k_is | rfl)
    (case k_nuI => first | k_is | rfl)
    (case g_CT => first | k_is | rfl)
    (case a_patI => first | k_is | rfl)
    (case l_patI => first | k_is | rfl)
    (case c_patI => first | k_is | rfl)
    (case k_patI => first | k_is | rfl)
    (case g_CQ => first | k_is | rfl)
    (case a_pieceI => first | k_is | rfl)
    (case l_pieceI => first | k_is | rfl)
    (case c_pieceI => first | k_is | rfl)
    (case k_pieceI => first | k_is | rfl)
    (case rd_CR => first | k_is | rfl)
    (case ga_CR => first | k_is | rfl)
    (case fc_CR => first | k_is | rfl)
    (case ic_CR => first | k_is | rfl)
    (case ex_CR => first | k_is | rfl)
    (case ty_CR => first | k_is | rfl)
    (case x_CP => first | k_is | rfl)
    (case sa_CP => first | k_is | rfl)
    (case ex_CP => first | k_is | rfl)
    (case ty_CP => first | k_is | rfl)
    (case kc_CP => first | k_is | rfl)
    (case no_CP => first | k_is | rfl)
    (case tf_CP => first | k_is | rfl)
    (case gt_CP => first | k_is | rfl)
    (case gg_CP => first | k_is | rfl)
    (case hd_CP => first | k_is | rfl)
    (case su_CP => first | k_is | rfl)
    (case x_CO => first | k_is | rfl)
    (case sa_CO => first | k_is | rfl)
    (case ex_CO => first | k_is | rfl)
    (case ty_CO => first | k_is | rfl)
    (case kc_CO => first | k_is | rfl)
    (case no_CO => first | k_is | rfl)
    (case tf_CO => first | k_is | rfl)
    (case gt_CO => first | k_is | rfl)
    (case gg_CO => first | k_is | rfl)
    (case hd_CO => first | k_is | rfl)
    (case su_CO => first | k_is | rfl)
    (case x_CU => first | k_is | rfl)
    (case sa_CU => first | k_is | rfl)
    (case ex_CU => first | k_is | rfl)
    (case ty_CU => first | k_is | rfl)
    (case kc_CU => first | k_is | rfl)
    (case no_CU => first | k_is | rfl)
    (case tf_CU => first | k_is | rfl)
    (case gt_CU => first | k_is | rfl)
    (case gg_CU => first | k_is | rfl)
    (case hd_CU => first | k_is | rfl)
    (case su_CU => first | k_is | rfl)
    (case pg_CT => first | k_is | rfl)
    (case hd_CT => first | k_is | rfl)
    (case po_CT => first | k_is | rfl)
    (case sa_CT => first | k_is | rfl)
    (case n_CT_letters => first | k_is | rfl)
    (case n_CT_levels => first | k_is | rfl)
    (case mk_CT => first | k_is | rfl)
    (case if_CT => first | k_is | rfl)
    (case kc_CT => first | k_is | rfl)
    (case pg_CQ => first | k_is | rfl)
    (case hd_CQ => first | k_is | rfl)
    (case po_CQ => first | k_is | rfl)
    (case sa_CQ => first | k_is | rfl)
    (case n_CQ_characters => first | k_is | rfl)
    (case n_CQ_joint => first | k_is | rfl)
    (case mk_CQ => first | k_is | rfl)
    (case if_CQ => first | k_is | rfl)
    (case kc_CQ => first | k_is | rfl)
  case S =>
    intro K H xs a hO hwi hask hx
    cases hx with
    | cons h0a h0b =>
      cases h0b with
      | cons h1a h1b =>
        cases h1b with
        | cons h2a h2b =>
          cases h2b
          cases h0a
          cases h1a with
          | lst hs1 hd1 =>
            have e1 := L2.ints_dw a.2.1 _ hd1
            subst e1
            cases h2a with
            | lst hs2 hd2 =>
              have e2 := L2.ints_dw a.2.2.1 _ hd2
              subst e2
              have q : (Codec.inInt 0 4294967295 a.1 && ((Codec.inLen 0 600 a.2.1 && a.2.1.all (Codec.inInt 0 255)) && ((Codec.inLen 0 600 a.2.2.1 && a.2.2.1.all (Codec.inInt 0 255)) && true))) = true := hwi
              simp only [Bool.and_eq_true] at q
              obtain ⟨q0a, ⟨q1a, q1b⟩, ⟨q2a, q2b⟩, _⟩ := q
              obtain ⟨n0, en0⟩ := Pl.in_word q0a
              refine ⟨n0, _, _, a.2.1, a.2.2.1, (by rw [en0]), hs1, hs2, (Codec.inNat_iff.mp q1a).2, (Codec.inNat_iff.mp q2a).2, Pl.in_bytes q1b, Pl.in_bytes q2b, fun H' p hp => ?_⟩
              rw [← en0] at hp
              exact .lst (L2.SqL.of hp) (L2.dw_ints _)
#print axioms PySem.Challenge.cw_plainlayout_s04_greedy_text_holds

