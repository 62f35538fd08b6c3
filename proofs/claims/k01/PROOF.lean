import PyProof.Rows.All
import Wide.All
import OpenK.AllK
import Wide.FinOn
import KE.KTypeName
import KE.KTryMore
import HandS.ForMost
import HandS.ForExc
import HandS.ExcInit
import HandS.ExcIs
import HandS.ExcField
import HandS.Star
import HandS.Defaults
import HandS.TryMany
import HandS.Lambda
import HandS.EndTab
import HandS.IsInst
import HandS.Wide
import HandS.WideMore
import HandS.Codes
import HandS.Flow
import HandS.Zip
import HandS.Head0
import HandS.Head1
import HandS.Head2
import HandS.HeadHook1
import HandS.HeadHook2
import HandS.HeadHook3
import HandS.HeadHook4
import HandS.HeadWalk
import HandS.Nested
import PySem.Challenge.RW_rungfields_k01_rests_undone_and_powered
import HandS.Walk
import HandS.HeadEnd
section
set_option Elab.async false
set_option linter.all false
set_option maxRecDepth 100000
set_option maxHeartbeats 2000000
/-! An own exception in the making: `self.__class__.__name__`. -/
namespace Xh
open PySem PySem.W PySem.Calls PyProof.Rows PySem.HandSPX Builtin Builtin.ObjectAttr Builtin.Getset_descriptor
section
variable {prog : Program} {w : World} {A : Around} {E : Value → Shared → Prop} {R : Result → Shared → Prop} {s : Shared} {K : Frag} {x D : Addr} {ox : Obj}
/-- x.__class__ of an exception without a dict of its own as yet -/
theorem exc_class {expr : Bool} {Q : Value → Shared → Prop} (hga : findIn K (.ref D) "__getattribute__" = some (some (.builtin "BaseException.__getattribute__"))) (hgt : findIn K (.ref D) "__getattr__" = some none) (hsub : subIn K (.ref D) (.type "BaseException") = some true)
    (hdct : hasDictIn K D = true) (ha : findIn K (.ref D) "__class__" = some (some (.builtin "object.__class__")))
    (hn : specialIn K (.builtin "object.__class__") "__get__" = some (some (.builtin "getset_descriptor.__get__"))) (htk : takesIn K (.builtin "object.__class__") = some true) (hm : mroIn K D (.type "object") = some true)
    (X : K.In s.heap) (I : InstAt s.heap x ox D none) (h : Q (.ref D) { s with toks := s.toks + 1 }) : wpAny (model prog w) A (getAttr (.ref x) "__class__" expr) Q E s := by
  have hf : findObj K D none "__class__" = some (.bind (.builtin "getset_descriptor.__get__") (.builtin "object.__class__")) := findObj_dataN (by obtain ⟨cd, hc, _⟩ := any_some hdct; rw [hc]; rfl) ha hn htk
  obtain ⟨hp, g, d, t, os⟩ := s
  have L0 := I.type (M := model prog w)
  have L1 := looks_findIn (M := model prog w) X hga
  have L2 := looks_findIn (M := model prog w) X hgt
  have L3 := looks_find (M := model prog w) X I hf
  have sub : Looks (model prog w) hp (isInstance (.ref x) (.type "BaseException")) true := L0.andThen (looks_subIn X hsub)
  have hx0 : (expr && onTheHeap (Value.builtin "BaseException.__getattribute__")) = false := by cases expr <;> rfl
  have hx2 : (Value.builtin "BaseException.__getattribute__" == Value.builtin "object.__getattribute__") = false := by decide +kernel
  have hx1 : (onTheHeap (Value.ref D) && Value.builtin "BaseException.__getattribute__" == Value.builtin "object.__getattribute__") = false := by rw [hx2]; rfl
  unfold getAttr getAttrBy
  refine wpAny_bind (wpAny_mkText (wpAny_holding (wpAny_bind (L0.at (wpAny_bind (L1.at ?_))))))
  show wpAny _ _ (if (onTheHeap (Value.ref D) && Value.builtin "BaseException.__getattribute__" == Value.builtin "object.__getattribute__") = true then _ else _) _ _ _
  rw [hx1, if_neg Bool.false_ne_true]
  unfold getAttrByItsOwn hookBefore
  refine wpAny_bind ?_
  rw [if_pos (show onTheHeap (Value.ref D) = true from rfl)]
  refine L2.at ?_
  refine wpAny_bind (wpAny_attempt (wpAny_holding ?_))
  unfold callGetattribute
  rw [hx0, if_neg Bool.false_ne_true]
  unfold boundAndCalled
  rw [PySem.F.excAttr_ValueError.ga.bind (.ref x)]
  refine wpAny_bind (wpAny_pure ?_)
  show wpAny _ _ (call (.builtin "BaseException.__getattribute__") [.ref x, .str "__class__" t]) _ _ _
  refine wpAny_call (codeAny_call_builtin PySem.F.excAttr_ValueError.ga.plain PySem.F.entry_bexc_ga ?_)
  refine @check_slot (model prog w) _ _ ⟨hp, g, d, t + 1, os⟩ "BaseException.__getattribute__" "BaseException" "__getattribute__" (.ref x) [.str "__class__" t] [] _ (by decide +kernel) (by decide +kernel) sub (PySem.F.args_bexc_ga (.ref x) (.str "__class__" t)) ?_
  unfold Builtin.«object.__getattribute__»
  refine wpAny_bind (wpAny_of_eq (a := ((Value.ref x : Value), [Value.str "__class__" t])) (by first | rfl | (simp only [slotArgs]; rfl)) ?_)
  refine wpAny_bind (wpAny_pure (wpAny_bind (L0.at (wpAny_bind (L3.at ?_)))))
  show wpAny _ _ (holding [Value.builtin "object.__class__"] (call (.builtin "getset_descriptor.__get__") [.builtin "object.__class__", .ref x, .ref D]) >>= ret) _ _ _
  refine wpAny_bind (wpAny_holding (wpAny_call (class_get (s := ⟨hp, g, d, t + 1, os⟩) (ox := ox) (od := none) X I hm ?_)))
  refine wpAny_pure ?_
  show wpAny _ _ (handedOut (.ref D)) _ _ _
  rw [handedOut_of (v := .ref D) rfl]
  exact wpAny_pure h
/-- type.__name__ of an own class: what its third slot holds -/
theorem name_get {C : Addr} {tp : Value} {cd : ClassData} {dd : Option Addr} {sl : Array (Option Value)} {v : Value} (hC : K.lookup C = some ⟨.type "type", dd, .cls cd, sl⟩) (hs : (sl[2]?).join = some v) (X : K.In s.heap)
    (h : R (.ok (.ret v)) s) : codeAny (model prog w) A (.call (.builtin "getset_descriptor.__get__") ⟨[.builtin "type.__name__", .ref C, tp], []⟩) R s := by
  obtain ⟨hh, g, dr, t, os⟩ := s
  have hg := X _ _ hC
  have L0 : Looks (model prog w) hh (typeOf (.ref C)) (.type "type") := fun A Q E s k q => wpAny_typeOf_ref (k _ _ hg) q
  have L1 : Looks (model prog w) hh (isSubtype (.type "type") (.type "type")) true := Looks.of_pure (by rw [isSubtype_type]; kernel_rfl)
  refine codeAny_call_builtin KF.slot_gs.plain KF.entry_gs (KF.slot_gs.check _ _ _ _ _ _ _ _ ktyn_type (KF.args_gs _ _ _) ?_)
  unfold Builtin.«getset_descriptor.__get__» descrGet
  rw [dga_obj]
  refine wpAny_bind (wpAny_pure ?_)
  unfold descrGetter descrCheckInstance descrNameAndClass isInstance
  simp only [ktyn_owner]
  repeat lk
  refine ⟨Code.quiet_builtin _ (by decide +kernel), codeAny_builtin ktyn_entry ?_⟩
  unfold Builtin.«type.__name__»
  dsimp only
  unfold keptObject slotAt
  dsimp only
  refine wpAny_bind (wpAny_bind (wpAny_loadPart hg ?_))
  refine wpAny_pure ?_
  dsimp only
  rw [hs]
  dsimp only
  exact wpAny_pure h
/-- C.__name__, C an own class -/
theorem cls_name {C : Addr} {cd : ClassData} {dd : Option Addr} {sl : Array (Option Value)} {v : Value} {expr : Bool} {Q : Value → Shared → Prop} (hC : K.lookup C = some ⟨.type "type", dd, .cls cd, sl⟩) (hs : (sl[2]?).join = some v) (hv : handedIn v = true)
    (hr : readsIn K C (.type "type") = true) (e : findCls K (.ref C) (.type "type") "__name__" = some (.get (.builtin "getset_descriptor.__get__") (.builtin "type.__name__") (.ref C) (.type "type")))
    (X : K.In s.heap) (h : Q v { s with toks := s.toks + 1 }) : wpAny (model prog w) A (getAttr (.ref C) "__name__" expr) Q E s :=
  cls_bind X hr e (wpAny_call (name_get hC hs X (handed_on hv h)))
end
end Xh
namespace L2
open PySem PySem.Spec PyProof.Rows
/-- what the written part says of an own exception class C of the name nm -/
structure RC (K : PySem.W.Frag) (C : Addr) (nm : Str) : Prop where
  o : OexC K C
  x : ExcC K C
  rd : PySem.W.readsIn K C (.type "type") = true
  fn : PySem.W.findCls K (.ref C) (.type "type") "__name__" = some (.get (.builtin "getset_descriptor.__get__") (.builtin "type.__name__") (.ref C) (.type "type"))
  nm : ∃ cd dd sl t, K.lookup C = some ⟨.type "type", dd, .cls cd, sl⟩ ∧ (sl[2]?).join = some (.str nm t)
section
variable {X : Cx} {o : Expr} {to : TE} {p q : Pos}
/-- e.__class__.__name__, e an exception in the making, without a dict as yet -/
def tClsNm (K : PySem.W.Frag) (to : TE) : TE := fun σ H Q => to σ H fun x H1 => ∃ (a C : Addr) (nm : Str), x = .ref a ∧ RC K C nm ∧ H1 a = some (exo a C none) ∧ Q (.str nm) H1
theorem pe_clsnm (ho : PE X o to) (h1 : attributeBase o "__class__" X.env (eval o X.env) = eval o X.env := by rfl)
    (h2 : attributeBase (.Attribute o "__class__" p) "__name__" X.env (eval (.Attribute o "__class__" p) X.env) = eval (.Attribute o "__class__" p) X.env := by rfl) :
    PE X (.Attribute (.Attribute o "__class__" p) "__name__" q) (tClsNm X.K to) := by
  refine ⟨fun pins s σ H Q I h => ?_⟩
  refine attr_of h2 (attr_of h1 (thn (ho.run pins s σ H _ I h) fun u s1 hh => ?_))
  obtain ⟨x, H1, I1, rx, a, C, nm, ex, T, ha, q⟩ := hh
  subst ex
  obtain rfl : u = Value.ref a := rx
  obtain ⟨t1, hg⟩ := exo_at I1.hok ha
  obtain ⟨cd, dd, sl, t, hC, hs⟩ := T.nm
  have J : PySem.W.InstAt s1.heap a { cls := .ref C, dict := none, data := .fields #[.ref t1, .none, .none, .none, .bool false, .none] } C none := ⟨hg, rfl, rfl, trivial⟩
  refine Xh.exc_class T.x.hg T.x.hk T.x.hs T.x.hd T.x.ha T.x.hn T.x.ht T.x.hm I1.kIn J ?_
  have I2 := I1.tok (s1.toks + 1)
  refine Xh.cls_name hC hs rfl T.rd T.fn I2.kIn ?_
  exact ⟨.str nm, H1, I2.tok _, ⟨t, rfl⟩, q⟩
end
end L2
end
section
set_option Elab.async false
set_option linter.all false
set_option maxRecDepth 100000
set_option maxHeartbeats 2000000
namespace L2
open PySem PySem.Spec PyProof.Rows
/-! ### RungError.__init__(self, *told): self.word = self.__class__.__name__ -/
/-- C() where C's __init__ takes only what is left over -/
def tMkO0 (C : Addr) (sp : Sp) : St → Hp → XK → Prop := fun σ H Q => ∀ a, H a = none → sp [.ref a] (upd H a (exo a C none))
  (fun v H2 => v = .non ∧ ∃ (d : Addr) (fs : List (Str × V)), H2 a = some (exo a C (some d)) ∧ H2 d = some (exd d fs) ∧ H d = none ∧ Q (.ref C) (some d) (upd (del H2 a) d (.xd fs))) (fun _ _ _ => False)
section
variable {X : Cx} {p pos : Pos}
theorem pmk_oex0 {CX : CXT} {x : Str} {C fI : Addr} {k : Nat} {sp : Sp} (T : OexC X.K C) (iC : PySem.W.findIn X.K (.ref C) "__init__" = some (some (.ref fI))) (tI : PySem.W.typeIn X.K (.ref fI) = some (.type "function"))
    (F1 : FnR X.prog X.w X.K X.mg X.base CX k fI sp) (hr : Room (k + 1) X.A) (hx : Passes CX X (fun _ _ _ => False)) (hg : Gl X x) (hm : X.mg x = some (.ref C))
    (hdb : (x == ("__debug__" : Str)) = false := by decide) :
    PMk X (.Call (.Name x p) [] [] pos) (tMkO0 C sp) := by
  intro pins s σ H Q I h
  obtain ⟨nm, q, N, bs, bm, sn, sub, ab, col, dd, k0, k1, k2, k3, k5, hC, hbm⟩ := T.cls
  refine wpAny_Call_Name_kw (ld_glob I hg hm ?_ hdb)
  refine PySem.W.callWith_K0 I.kIn T.kC ?_
  show wpAny _ _ (call (.ref C) []) _ _ _
  obtain ⟨hp, g, dr, tk, os⟩ := s
  have hsz : hp.objs.size ≤ hp.objs.size + 1 := Nat.le_succ _
  have hn : H (hp.objs.size + 1) = none := I.hok.fresh hsz
  have hq := h (hp.objs.size + 1) hn
  have kk : ∀ b o, hp.get? b = some o → ((hp.push (PySem.W.kdv_tup [])).push (PySem.HandSPX.excO C hp.objs.size)).get? b = some o := fun b o e => Heap.get?_push_of_some _ (Heap.get?_push_of_some _ e)
  have hget : ((hp.push (PySem.W.kdv_tup [])).push (PySem.HandSPX.excO C hp.objs.size)).get? (hp.objs.size + 1) = some (PySem.HandSPX.excO C hp.objs.size) := by heap_get
  have I2 : Inv X pins σ (upd H (hp.objs.size + 1) (exo (hp.objs.size + 1) C none)) ⟨(hp.push (PySem.W.kdv_tup [])).push (PySem.HandSPX.excO C hp.objs.size), g, dr, tk, os⟩ :=
    I.laid (t' := tk) (a := hp.objs.size + 1) (o := exo (hp.objs.size + 1) C none) (h' := (hp.push (PySem.W.kdv_tup [])).push (PySem.HandSPX.excO C hp.objs.size)) kk hsz (exo_ok hget)
  have r2 : Vals [V.ref (hp.objs.size + 1)] [Value.ref (hp.objs.size + 1)] := .cons rfl .nil
  refine wpAny_call (PySem.HandSPX.call_own F.excBase_ValueError (fun Y => PySem.HandSPX.refsVE_contains Y bm hbm) (I.kIn _ _ hC) (PySem.W.looks_findIn I.kIn iC) (fun self => PySem.W.bind_fn I.kIn self tI) (by rw [sizeLine_eq]; exact Nat.zero_le _)
    (codeAny_mono (F1 _ X.stack _ _ [Value.ref (hp.objs.size + 1)] [V.ref (hp.objs.size + 1)] _ (fun _ _ _ => False) (hr.make C [] []) (I2.env0.make C [] []) r2 hq) fun r s' hq' => ?_))
  cases r with
  | error er => exact hx pins σ _ _ er s' I2 hq'
  | ok fl =>
    cases fl with
    | ret u =>
      obtain ⟨v, H2, os2, bare2, un2, hok2, rv, ev, d, fs, ea, ed, hd1, q2⟩ := hq'
      subst ev
      obtain ⟨h2, g2, d2, t2, os'⟩ := s'
      exact ⟨rv, mk_end (raises_own T.exC T.tyC) I hsz kk un2 hok2 os2 bare2 ea ed hd1 q2⟩
    | next => exact False.elim hq'
    | brk => exact False.elim hq'
    | cont => exact False.elim hq'
end
end L2
namespace Xh
open PySem PySem.Spec PyProof.Rows L2
/-- what RungError.__init__ promises: self an exception in the making, told a new tuple -/
def spRI (K : PySem.W.Frag) : Sp := fun vs H Q E => ∃ (a p C : Addr) (nm : Str), vs = [.ref a, .ref p] ∧ RC K C nm ∧ PySem.W.findIn K (.ref C) "word" = some none ∧ H a = some (exo a C none) ∧
  ∀ dx, H dx = none → dx ≠ a → Q .non (upd (upd H dx (exd dx [("word", .str nm)])) a (exo a C (some dx)))
/-- .. as it is called -/
def spRI1 (K : PySem.W.Frag) : Sp := fun vs H Q E => ∃ (a C : Addr) (nm : Str), vs = [.ref a] ∧ RC K C nm ∧ PySem.W.findIn K (.ref C) "word" = some none ∧ H a = some (exo a C none) ∧
  ∀ H1 dx, H dx = none → dx ≠ a → Same H H1 → H1 dx = none → Q .non (upd (upd H1 dx (exd dx [("word", .str nm)])) a (exo a C (some dx)))
section
variable {P : Program} {w : World} {K : PySem.W.Frag} {mg : Str → Option Value} {base : Heap}
theorem ok_rinit {st : Stmt} {f : Addr} {fd : FuncData} (F : FunD K "__init__" "RungError.__init__" (defArgs st) (defBody st) (defScope st) [] [] f fd) (S : FnScope (["self", "told"] : List Str) ["self", "told"] (defScope st))
    (hb : ∀ (kV doc pm : Value) (an : Option Addr) (cdv ct : Value) (us rest : List Value), us.length = ["self"].length → bindArgs (PySem.W.fnOf "__init__" "RungError.__init__" (defArgs st) (defBody st) (defScope st) .none kV doc pm an cdv ct) ⟨us ++ rest, []⟩ = (newTuple rest >>= fun t => pure ((["self"] : List Str).zip us ++ [(("told" : Str), t)])))
    (body : ∀ X : Cx, X.K = K → X.N = (["self", "told"] : List Str) → X.env.scope = defScope st → PSs X (defBody st) (tOst K "word" (tVar 0) (tClsNm K (tVar 0)))) : FnR P w K mg base (L2.CX P w) 1 f (spRI1 K) := by
  obtain ⟨oc, od, dV, kV, doc, pm, an, cdv, ct, osl, rfl, lk, hcd, hD, _⟩ := F.ex
  rcases hD with ⟨_, rfl⟩ | ⟨e, _⟩
  case inr => exact absurd rfl e
  have G := StX.fn_star (CX := L2.CX P w) (P := P) (w := w) (mg := mg) (base := base) (k := 0) (ps := ["self"]) (pv := "told") (N := ["self", "told"]) (sp := spRI K) lk hcd S StX.cxUp (hb kV doc pm an cdv ct) (fun A outer s H vs Q E hr h => ?_)
  · intro A outer s H us vs Q E hr e0 r h
    obtain ⟨a, C, nm, rfl, T, hw, ha, k⟩ := h
    refine G A outer s H us _ Q E hr e0 r ⟨[.ref a], [], rfl, rfl, by rw [sizeLine_eq]; exact Nat.zero_le _, fun p hp => ⟨a, p, C, nm, rfl, T, hw, by rw [upd_ne (ne_of_none ha hp)]; exact ha, fun dx hdx hne => ?_⟩⟩
    have hdp : dx ≠ p := fun z => by rw [z, upd_same] at hdx; cases hdx
    refine k _ dx (by rw [upd_ne hdp] at hdx; exact hdx) hne (fun b o e => by rw [upd_ne (ne_of_none e hp)]; exact e) hdx
  · obtain ⟨a, p, C, nm, rfl, T, hw, ha, k⟩ := h
    refine ⟨_, body _ rfl rfl rfl, ?_⟩
    refine ⟨_, rfl, a, C, nm, rfl, T, ha, _, rfl, a, C, rfl, T.o, hw, .inl ⟨ha, fun dx hdx hne => k dx hdx hne⟩⟩
/-- a class whose objects RungError.__init__ alone makes -/
structure RX (K : PySem.W.Frag) (mg : Str → Option Value) (C fI : Addr) (nm : Str) : Prop where
  c : RC K C nm
  w : PySem.W.findIn K (.ref C) "word" = some none
  i : PySem.W.findIn K (.ref C) "__init__" = some (some (.ref fI))
  t : PySem.W.typeIn K (.ref fI) = some (.type "function")
  g : mg nm = some (.ref C)
/-- raise C(): its word -/
def tMkR (C : Addr) (nm : Str) : L2.St → Hp → XK → Prop := fun _ H Q => ∀ (d : Addr) (H' : Hp), Same H H' → H' d = some (.xd [("word", .str nm)]) → H d = none → Q (.ref C) (some d) H'
theorem pmk_rung {X : Cx} {C fI : Addr} {nm : Str} {p pos : Pos} (T : RX X.K X.mg C fI nm) (F : FnR X.prog X.w X.K X.mg X.base (L2.CX X.prog X.w) 1 fI (spRI1 X.K)) (hr : Room 2 X.A) (hg : Gl X nm) (hdb : (nm == ("__debug__" : Str)) = false := by decide) :
    PMk X (.Call (.Name nm p) [] [] pos) (tMkR C nm) := by
  intro pins s σ H Q I h
  refine pmk_oex0 T.c.o T.i T.t F hr passL hg T.g hdb pins s σ H Q I fun a ha => ?_
  refine ⟨a, C, nm, rfl, T.c, T.w, upd_same, fun H1 dx hdx hne hs h1 => ⟨rfl, dx, _, upd_same, by rw [upd_ne hne, upd_same], by rw [upd_ne hne] at hdx; exact hdx, ?_⟩⟩
  have hdx' : H dx = none := by rw [upd_ne hne] at hdx; exact hdx
  refine h dx _ (fun b o e => ?_) upd_same hdx'
  have h2 : b ≠ a := ne_of_none e ha
  have h3 : b ≠ dx := ne_of_none e hdx'
  rw [upd_ne h3, del_ne h2, upd_ne h2, upd_ne h3]
  exact hs b o (by rw [upd_ne h2]; exact e)
end
end Xh
end
section
set_option Elab.async false
set_option linter.all false
set_option maxRecDepth 100000
set_option maxHeartbeats 2000000
/-! several except clauses, each with a class or a tuple of classes, with or without a name -/
namespace Xh
open PySem PySem.Spec PyProof.Rows L2
/-- what a clause's test tells: its classes -/
def TestE (X : Cx) (te : Expr) (cs : List Value) : Prop :=
  ∀ (a : Addr) (pn : List (Addr × Obj)) (s : Shared) (σ : L2.St) (H : Hp) (cls : Value) (b : Bool), Inv (X.suite a pn) [] σ H s → PySem.W.Looks (model X.prog X.w) s.heap (typeOf (.ref a)) cls → PySem.W.exmAny X.K cls cs = some b →
    ∀ (Q : Bool → Shared → Prop) (E : Value → Shared → Prop), (∀ (h' : Heap) (tk : Nat), (∀ c o, s.heap.get? c = some o → h'.get? c = some o) → Q b { s with heap := h', toks := tk }) →
      wpAny (model X.prog X.w) (X.A.mark (some (.ref a))) (eval te X.env) (fun c s₁ => wpAny (model X.prog X.w) (X.A.mark (some (.ref a))) (excMatches (.ref a) c) Q E s₁) E s
theorem testName {X : Cx} {x : Str} {c : Value} {np : Pos} (hc : Names X x c) : TestE X (.Name x np) [c] := by
  intro a pn s σ H cls b I LT hx Q E hq
  obtain ⟨b1, d1, h1, h2, h3⟩ := PySem.W.exmAny_cons hx
  have e2 : d1 = false := (Option.some.inj h2).symm
  subst e2
  rw [Bool.or_false] at h3
  subst h3
  have LM := PySem.W.exm_one (M := model X.prog X.w) I.kIn LT h1
  have q : Q b s := by
    obtain ⟨hp, g, d, tk, os⟩ := s
    exact hq hp tk fun _ _ e => e
  obtain ⟨hg, hdbg, hm | ⟨hm, hv, hnn⟩⟩ := hc
  · exact ld_glob (X := X.suite a pn) I hg hm (LM.here q) hdbg
  · exact ld_blt (X := X.suite a pn) I hg hm hv (LM.here q) hnn hdbg
theorem testTup2 {X : Cx} {x y : Str} {C D : Addr} {p1 p2 pos : Pos} {k} (hx : Gl X x) (hmx : X.mg x = some (.ref C)) (hy : Gl X y) (hmy : X.mg y = some (.ref D)) (hdx : (x == ("__debug__" : Str)) = false := by decide) (hdy : (y == ("__debug__" : Str)) = false := by decide) :
    TestE X (.Tuple [.Name x p1, .Name y p2] k pos) [.ref C, .ref D] := by
  intro a pn s σ H cls b I LT hb Q E hq
  obtain ⟨hp, g, d, tk, os⟩ := s
  refine wpAny_Tuple_spliced ?_
  show wpAny _ _ (spliced ((false, eval (.Name x p1) X.env) :: (false, eval (.Name y p2) X.env) :: [])) _ _ _
  refine Calls.spliced_cons (ld_glob (X := X.suite a pn) I hx hmx (Calls.spliced_cons (ld_glob (X := X.suite a pn) I hy hmy (Calls.spliced_nil ⟨by rw [sizeLine_eq]; exact (by decide : 2 ≤ 16777216), ?_⟩) hdy)) hdx)
  have kk : ∀ b o, hp.get? b = some o → (hp.push ({ cls := .type "tuple", data := .seq [Value.ref C, Value.ref D].toArray } : Obj)).get? b = some o := fun b o e => Heap.get?_push_of_some _ e
  have LM := PySem.W.exm_tup2 (M := model X.prog X.w) (K := X.K) (I.kIn.keeps kk) (LT.keeps kk) (Heap.get?_push_size _ rfl) hb
  exact LM.here (hq _ tk kk)
/-- a clause: its test, its name's slot (if any), its suite -/
abbrev Cl : Type := List Value × Option Nat × (Addr → Value → Option Addr → TS)
/-- the ends behind a suite: the clause's name is gone -/
def outOf (D : Ends) : Option Nat → Ends
  | none => D
  | some i => { nx := fun σ' H' => D.nx (σ'.set i none) H', rt := D.rt, bk := fun σ' H' => D.bk (σ'.set i none) H', ct := fun σ' H' => D.ct (σ'.set i none) H' }
def intoS (σ : L2.St) (a : Addr) : Option Nat → L2.St
  | none => σ
  | some i => σ.set i (some (.ref a))
/-- what the clauses wish of an exception of the body, one after the other -/
def wClauses (K : PySem.W.Frag) (Wout : WX) (D : Ends) : List Cl → WX
  | [] => Wout
  | (cs, n, ts) :: r => fun cls d σ H => ∃ b, PySem.W.exmAny K cls cs = some b ∧ (b = true → ∀ a, H a = none → ts a cls d (outOf D n) (intoS σ a n) H) ∧ (b = false → wClauses K Wout D r cls d σ H)
inductive ClsOk (X : Cx) : List ExceptHandler → List Cl → Prop
  | nil : ClsOk X [] []
  | cons {te : Expr} {cs : List Value} {ts : Addr → Value → Option Addr → TS} {b₀ : Stmt} {suite : List Stmt} {pos' : Pos} {hds : List ExceptHandler} {l : List Cl} (hc : TestE X te cs)
      (hsu : ∀ (a : Addr) (oe : Obj) (cls : Value) (d : Option Addr) (pn : List (Addr × Obj)), Zc cls d oe → (∃ vs, oe.data = .fields vs) → PSs (X.suite a ((a, oe) :: pn)) (b₀ :: suite) (ts a cls d)) (r : ClsOk X hds l) :
      ClsOk X (.ExceptHandler (some te) none (b₀ :: suite) pos' :: hds) ((cs, none, ts) :: l)
  | as {te : Expr} {cs : List Value} {ts : Addr → Value → Option Addr → TS} {b₀ : Stmt} {suite : List Stmt} {pos' : Pos} {hds : List ExceptHandler} {l : List Cl} {n : Str} {i : Nat} (hc : TestE X te cs) (hi : X.N[i]? = some n) (hln : X.env.kindOf n = some .local)
      (hsu : ∀ (a : Addr) (oe : Obj) (cls : Value) (d : Option Addr) (pn : List (Addr × Obj)), Zc cls d oe → (∃ vs, oe.data = .fields vs) → PSs (X.suite a ((a, oe) :: pn)) (b₀ :: suite) (ts a cls d)) (r : ClsOk X hds l) :
      ClsOk X (.ExceptHandler (some te) (some n) (b₀ :: suite) pos' :: hds) ((cs, some i, ts) :: l)
theorem flying_keeps {base h h' : Heap} {l : List Env} {e : Addr} {Z : Obj → Prop} (x : HandSPX.FlyingZ base l e Z h) (k : ∀ b o, h.get? b = some o → h'.get? b = some o) : HandSPX.FlyingZ base l e Z h' := by
  obtain ⟨f1, f2, f3, oe, vs, T, oT, ts, g1, g2, g3, g4, g5, g6, g7, g8, g9⟩ := x
  exact ⟨fun b o e => k b o (f1 b o e), f2, f3.of_keeps fun b o e _ => ⟨o, k b o e, rfl⟩, oe, vs, T, oT, ts, k _ _ g1, g2, g3, g4, g5, g6, k _ _ g7, g8, g9⟩
section
variable {X : Cx} {body : List Stmt} {h₀ : ExceptHandler} {hds : List ExceptHandler} {l : List Cl} {pos : Pos} {tb : WX → TS} {Wout : WX}
theorem ps_try_cls (hs : X.stack = X.env :: X.outer) (hf : X.env.frame = some X.env.locals) (hN : X.N.Nodup) (tk : Takes X Wout)
    (hb : ∀ (W : WX) (pn : List (Addr × Obj)) (xe : Value → Shared → Prop), Takes (X.tr pn xe) W → PassesOwn (model X.prog X.w) X.A X.env xe → PSs (X.tr pn xe) body (tb W))
    (hh : ClsOk X (h₀ :: hds) l) : PS X (.Try body (h₀ :: hds) [] [] pos) (fun D σ H => tb (wClauses X.K Wout D l) D σ H) := by
  refine ⟨fun pins s σ H D I h => ?_⟩
  have ok := I.ok
  have hfr : X.A.frames = some (X.env :: X.outer) := by rw [ok.frames, hs]
  refine wpAny_Try_except ?_
  refine wpAny_mono ((hb (wClauses X.K Wout D l) (X.pn ++ pins) (fun e s₁ => wpAny (model X.prog X.w) X.A (noteFrame e X.env) (fun _ s₂ => wpAny (model X.prog X.w) X.A (setFlight e none) (fun _ s₃ =>
    wpAny (model X.prog X.w) X.A (handleBy e X.env (h₀ :: hds)) (SP X pins D) X.xe s₃) X.xe s₂) X.xe s₁) (fun u s' xx => ?_) PassesOwn.looking).run [] s σ H D (I.toTry _) h) (fun f s1 hsp => ?_) (fun e s1 he => he)
  · -- the catch
    obtain ⟨a, B, sI, pins', σ', H', cls, d, rfl, J', nb, up, sky, na, os, ag, w⟩ := xx
    have J : Inv X pins σ' H' sI := J'.ofTry ok
    have sky' : Sky B (X.env :: X.outer) a (Zc cls d) X.env.locals s'.heap := by rw [← hs]; exact sky
    show wpAny (model X.prog X.w) X.A (noteFrame (.ref a) X.env) _ _ _
    refine Sky.land Zc.steady hfr hf sky' fun h3 fl3 up3 => ?_
    have notFr : ∀ {h : Heap} {o : Obj} {vs : Array Value}, h.FunFrames B (X.env :: X.outer) → h.get? a = some o → o.data = .fields vs → a ∉ frs (X.env :: X.outer) := fun {h o vs} ff e dd hm => by
      obtain ⟨_, o', e', hnf⟩ := ff.mem hm
      rw [e] at e'; cases e'
      exact hnf _ dd
    have go : ∀ {hds' : List ExceptHandler} {l' : List Cl}, ClsOk X hds' l' → ∀ (h3 : Heap) (t3 : Nat), HandSPX.FlyingZ B (X.env :: X.outer) a (Zc cls d) h3 → sI.heap.UpToSlots h3 → wClauses X.K Wout D l' cls d σ' H' →
        wpAny (model X.prog X.w) X.A (handleBy (.ref a) X.env hds') (SP X pins D) X.xe { s' with heap := h3, toks := t3 } := by
      intro hds' l' hk
      induction hk with
      | nil =>
        intro h3 t3 fl3 up3 w
        refine wpAny_handleBy_nil ?_
        obtain ⟨k1, k2, k3, oe, vs, T, oT, ts', he, hz, hd, h1, hr⟩ := id fl3
        unfold PySem.passOn
        refine wpAny_bind (wpAny_field he hd h1 ?_)
        rw [if_neg (show ¬ ((Value.ref T == Value.none) = true) from by simp)]
        have fin : wpAny (model X.prog X.w) X.A (setFlight (.ref a) X.env.frame) (fun _ s4 => wpAny (model X.prog X.w) X.A (throw (.ref a) : Sem Flow) (SP X pins D) X.xe s4) X.xe { s' with heap := h3, toks := t3 } := by
          rw [hf]
          refine HandSPX.setFlight_upZ fl3 fun h4 hh4 up4 => wpAny_throw (tk _ _ ?_)
          exact ⟨a, B, sI, pins, σ', H', cls, d, rfl, J, nb, up3.trans up4, .inr (.inr (by rw [hs]; exact hh4)), na, os, ag, w⟩
        first
          | exact wpAny_bind (wpAny_pure (wpAny_bind fin))
          | exact wpAny_bind fin
      | @cons te cs ts b₀ suite pos' hds2 l2 hc hsu r ih =>
        intro h3 t3 fl3 up3 w
        obtain ⟨b, hb1, hyes, hno⟩ := w
        have J3 : Inv X pins σ' H' { s' with heap := h3, toks := t3 } := J.landed nb fl3.1 up3 os ag
        obtain ⟨oe3, vs3, he3, hz3, hd3⟩ := fl3.there
        have nfr := notFr fl3.2.2.1 he3 hd3
        have nL : a ≠ X.env.locals := fun z => nfr (List.mem_filterMap.mpr ⟨X.env, List.mem_cons_self, by rw [hf, z]⟩)
        have nF : a ∉ X.fs := fun hm => by
          obtain ⟨e, he, q⟩ := List.mem_filterMap.mp hm
          exact nfr (List.mem_filterMap.mpr ⟨e, List.mem_cons_of_mem _ he, q⟩)
        have S3 := J3.suite he3 hd3 na nL nF
        refine wpAny_handleBy_cons (codeAny_handlers_test ?_) (by intro q; cases q)
        have LT : PySem.W.Looks (model X.prog X.w) h3 (typeOf (.ref a)) cls := fun A Q E s k q => wpAny_typeOf_ref (k _ _ he3) (by rw [hz3.1]; exact q)
        refine hc a _ _ _ _ cls b S3 LT hb1 _ _ fun h5 t5 k5 => ?_
        have fl5 := flying_keeps fl3 k5
        have up5 : sI.heap.UpToSlots h5 := up3.trans (Heap.UpToSlots.of_keeps k5)
        cases b with
        | true =>
          refine codeAny_handlers_suite ?_
          refine HandSPX.lands_againZ fl5 fun h4 fl4 up4 => ?_
          have J4 : Inv X pins σ' H' { s' with heap := h4, toks := t5 } := J.landed nb fl4.1 (up5.trans up4) os ag
          obtain ⟨oe4, vs4, he4, hz4, hd4⟩ := fl4.there
          have S4 := J4.suite he4 hd4 na nL nF
          refine wpAny_mono ((hsu a oe4 cls d (X.pn ++ pins) hz4 ⟨_, hd4⟩).run [] _ _ H' _ S4 (hyes rfl a na)) (fun f s6 hsp => ?_) (fun _ _ z => False.elim z)
          cases f with
          | next =>
            obtain ⟨σ6, H6, S6, q6⟩ := hsp
            exact ⟨_, _, S6.unsuite ok, q6⟩
          | brk =>
            obtain ⟨σ6, H6, S6, q6⟩ := hsp
            exact ⟨_, _, S6.unsuite ok, q6⟩
          | cont =>
            obtain ⟨σ6, H6, S6, q6⟩ := hsp
            exact ⟨_, _, S6.unsuite ok, q6⟩
          | ret u =>
            obtain ⟨v6, σ6, H6, S6, r6, q6⟩ := hsp
            exact ⟨_, _, _, S6.unsuite ok, r6, q6⟩
        | false =>
          show wpAny _ X.A (handleBy (.ref a) X.env hds2) _ _ _
          exact ih h5 t5 fl5 up5 (hno rfl)
      | @as te cs ts b₀ suite pos' hds2 l2 n i hc hi hln hsu r ih =>
        intro h3 t3 fl3 up3 w
        obtain ⟨b, hb1, hyes, hno⟩ := w
        have J3 : Inv X pins σ' H' { s' with heap := h3, toks := t3 } := J.landed nb fl3.1 up3 os ag
        obtain ⟨oe3, vs3, he3, hz3, hd3⟩ := fl3.there
        have nfr := notFr fl3.2.2.1 he3 hd3
        have nL : a ≠ X.env.locals := fun z => nfr (List.mem_filterMap.mpr ⟨X.env, List.mem_cons_self, by rw [hf, z]⟩)
        have nF : a ∉ X.fs := fun hm => by
          obtain ⟨e, he, q⟩ := List.mem_filterMap.mp hm
          exact nfr (List.mem_filterMap.mpr ⟨e, List.mem_cons_of_mem _ he, q⟩)
        have S3 := J3.suite he3 hd3 na nL nF
        refine wpAny_handleBy_cons (codeAny_handlers_test ?_) (by intro q; cases q)
        have LT : PySem.W.Looks (model X.prog X.w) h3 (typeOf (.ref a)) cls := fun A Q E s k q => wpAny_typeOf_ref (k _ _ he3) (by rw [hz3.1]; exact q)
        refine hc a _ _ _ _ cls b S3 LT hb1 _ _ fun h5 t5 k5 => ?_
        have fl5 := flying_keeps fl3 k5
        have up5 : sI.heap.UpToSlots h5 := up3.trans (Heap.UpToSlots.of_keeps k5)
        cases b with
        | true =>
          refine codeAny_handlers_suite_as ?_
          refine HandSPX.lands_againZ fl5 fun h4 fl4 up4 => ?_
          have J4 : Inv X pins σ' H' { s' with heap := h4, toks := t5 } := J.landed nb fl4.1 (up5.trans up4) os ag
          obtain ⟨oe4, vs4, he4, hz4, hd4⟩ := fl4.there
          have S4 := J4.suite he4 hd4 na nL nF
          refine store_ok (X := X.suite a ((a, oe4) :: (X.pn ++ pins))) (v := .ref a) S4 hN hi (.inl hln) rfl (fun s5 S5 => ?_) (.inr hln)
          refine wpAny_mono ((hsu a oe4 cls d (X.pn ++ pins) hz4 ⟨_, hd4⟩).run [] s5 _ H' _ S5 (hyes rfl a na)) (fun f s6 hsp => ?_) (fun _ _ z => False.elim z)
          have end_ : ∀ {σ6 : L2.St} {H6 : Hp} {Q : Shared → Prop}, Inv (X.suite a ((a, oe4) :: (X.pn ++ pins))) [] σ6 H6 s6 → (∀ s7, Inv X pins (σ6.set i none) H6 s7 → Q s7) →
              wpAny (model X.prog X.w) X.A (do bindName X.env n .none; unbindBehindTheSuite X.env n pos') (fun _ s7 => Q s7) X.xe s6 := fun {σ6 H6 Q} S6 hq => gone_ok (S6.unsuite ok) hN hi hln hq
          cases f with
          | next =>
            obtain ⟨σ6, H6, S6, q6⟩ := hsp
            exact end_ S6 fun s7 J7 => ⟨_, _, J7, q6⟩
          | brk =>
            obtain ⟨σ6, H6, S6, q6⟩ := hsp
            exact end_ S6 fun s7 J7 => ⟨_, _, J7, q6⟩
          | cont =>
            obtain ⟨σ6, H6, S6, q6⟩ := hsp
            exact end_ S6 fun s7 J7 => ⟨_, _, J7, q6⟩
          | ret u =>
            obtain ⟨v6, σ6, H6, S6, r6, q6⟩ := hsp
            exact end_ S6 fun s7 J7 => ⟨_, _, _, J7, r6, q6⟩
        | false =>
          show wpAny _ X.A (handleBy (.ref a) X.env hds2) _ _ _
          exact ih h5 t5 fl5 up5 (hno rfl)
    exact go hh h3 s'.toks fl3 (up.trans up3) w
  · cases f with
    | next =>
      obtain ⟨σ', H', J', q⟩ := hsp
      exact wpAny_execs_nil ⟨σ', H', J'.ofTry ok, q⟩
    | brk =>
      obtain ⟨σ', H', J', q⟩ := hsp
      exact ⟨σ', H', J'.ofTry ok, q⟩
    | cont =>
      obtain ⟨σ', H', J', q⟩ := hsp
      exact ⟨σ', H', J'.ofTry ok, q⟩
    | ret u =>
      obtain ⟨v, σ', H', J', r, q⟩ := hsp
      exact ⟨v, σ', H', J'.ofTry ok, r, q⟩
end
end Xh
end
section
set_option Elab.async false
set_option linter.all false
set_option maxRecDepth 100000
set_option maxHeartbeats 2000000
/-! a lambda handed on from def to def -/
namespace Xh
open PySem PySem.Spec PyProof.Rows L2 LamX
section
variable {X : Cx} {pins : List (Addr × Obj)} {σ : L2.St} {H HZ : Hp} {s s1 : Shared}
theorem lam_startG {fs : List Addr} {A : Around} {outer : List Env} {E : XK} {scope : Scope} {f c' : Addr} {h₁ : Heap} {tk : Nat} (I : Inv X pins σ H s) (L : LamS X.env.scope scope) (e0 : Env0 X.prog X.w X.K X.mg X.base A outer s1 HZ) (hd : A.handled = none)
    (un : Un fs [] H HZ s.heap s1.heap) (hns : h₁.Ns s1.heap.objs.size fun y => ([] : List (Str × Value)).reverse.lookup y) (kp : ∀ b o, s1.heap.get? b = some o → h₁.get? b = some o) :
    Inv (lamCx X A outer s1 HZ E scope f c') [] σ HZ { s1 with heap := h₁, toks := tk } := by
  have hfree := L.has I.ok
  have cm : ∀ {y c}, (cloFrom X.env.cells scope.names []).lookup y = some c → X.env.cells.lookup y = some c := fun {y c} e => by
    rcases cloFrom_mem (PySem.mem_of_lookup e) with hm | ⟨h1, h2⟩
    · cases hm
    · obtain ⟨c1, hc⟩ := hfree _ h1 rfl
      have hc : X.env.cells.lookup y = some c1 := hc
      have e2 : c = c1 := by
        rw [h2, hc] <;> rfl
      rw [e2]
      exact hc
  have look : ∀ {y}, scope.names.lookup y = some .free → ∃ c, (cloFrom X.env.cells scope.names []).lookup y = some c := fun {y} hl => by
    have hy : (y, NameKind.free) ∈ scope.names := PySem.mem_of_lookup hl
    exact mem_lookup (cloFrom_has (cells := X.env.cells) (acc := []) hy)
  have cellK : ∀ {c : Addr} {v : Option Value}, H c = none → s.heap.IsCell c v → h₁.IsCell c v := fun {c v} n ⟨o, ho, hd⟩ => by
    obtain ⟨sl, q⟩ := un.any ho n (by simp)
    exact ⟨_, kp _ _ q, hd⟩
  have noA : ∀ b : Addr, b ∉ (lamCx X A outer s1 HZ E scope f c').ex := fun b z => absurd (show b ∈ ([] : List Addr) from z) (by simp)
  refine ⟨⟨e0.mod, L.kind, rfl, rfl, Nat.le_refl _, fun y z c e1 e2 => I.ok.inj y z c (cm e1) (cm e2), fun y hy => ?_, fun y c z _ => ?_, fun _ => hd, Around.frames_deeper e0.frames, .inr ⟨rfl, rfl⟩, fun b z => absurd z (noA b), e0.bs, e0.bsz, fun b _ _ => noA b,
      fun b z => absurd z (noA b), e0.funs, e0.frf⟩,
    rfl, e0.bare, Un.kept kp, ⟨_, hns, fun i y v e1 e2 e3 => ?_⟩, fun y c e => ?_, e0.hok.fresh (Nat.le_refl _), fun y c e => ?_, fun q hq => absurd (show q ∈ ([] : List (Addr × Obj)) ++ [] from hq) (by simp), e0.hok.kept kp, I.len⟩
  · have hy : scope.names.lookup y = some .cell ∨ scope.names.lookup y = some .free := hy
    rcases hy with hy | hy
    · exact absurd rfl (L.own _ (PySem.mem_of_lookup hy)).2
    · exact look hy
  · have z : false = true := z
    cases z
  · have e3 : Vis scope y := e3
    rcases e3 with k | k | k
    · exact absurd rfl (L.own _ (PySem.mem_of_lookup k)).1
    · exact absurd rfl (L.own _ (PySem.mem_of_lookup k)).2
    · obtain ⟨m, hn, hl⟩ := I.loc
      have hvis : Vis X.env.scope y := (L.free _ (PySem.mem_of_lookup k) rfl).elim (fun k => .inr (.inl k)) (fun k => .inr (.inr k))
      obtain ⟨w', r, q⟩ := hl i y v e1 e2 hvis
      obtain ⟨c2, h2⟩ := look k
      refine ⟨w', r, .inr ⟨.inr k, c2, h2, ?_⟩⟩
      have c1 := cm h2
      rcases q with ⟨k', _⟩ | ⟨_, c3, e', z⟩
      · have k' : X.env.scope.names.lookup y = some .local := k'
        rcases L.free _ (PySem.mem_of_lookup k) rfl with k2 | k2 <;> rw [show X.env.scope.names.lookup y = _ from k2] at k' <;> cases k'
      · rw [c1] at e'
        cases e'
        exact cellK (I.freeC y _ c1) z
  · obtain ⟨w', z⟩ := I.cell y c (cm e)
    exact ⟨w', cellK (I.freeC y c (cm e)) z⟩
  · obtain ⟨v, o, ho, hd⟩ := I.cell y c (cm e)
    exact un.free c o ho (I.freeC y c (cm e)) (by simp)
end
/-- the thing at f can be called, without arguments, from whatever runs behind the state s (abstract heap H): tl tells its reading, q its code's name -/
def CanAct (P : Program) (w : World) (K : PySem.W.Frag) (mg : Str → Option Value) (base : Heap) (k : Nat) (q : Str) (f c' : Addr) (tl : XK → Hp → VK → Prop) (s : Shared) (H : Hp) : Prop :=
  ∀ (fs : List Addr) (CXg : CXT) (Ng : List Str) (qg : Str) (sg : Scope) (g : Addr) (cdg : Value) (A : Around) (outer : List Env) (sZ : Shared) (HZ0 : Hp) (Eg : XK), Un fs [] H HZ0 s.heap sZ.heap → f ∉ fs → (∀ b ∈ frs outer, b ∈ fs) → Room (k + 1) (A.deeper (envOfC qg sg sZ.heap.objs.size g cdg)) →
    ∀ (i : Nat) (a : Str) (W : WX) (pn : List (Addr × Obj)) (xe : Value → Shared → Prop) (E : XK) (p1 p2 : Pos), Ng[i]? = some a → Vis sg a → (a == ("__debug__" : Str)) = false → (a == ("__classdict__" : Str)) = false →
      Takes ((cxOf CXg P w K mg base Ng qg sg g cdg A outer sZ HZ0 Eg).tr pn xe) W → (∀ cls d σ' H', E cls d H' → W cls d σ' H') →
      PE ((cxOf CXg P w K mg base Ng qg sg g cdg A outer sZ HZ0 Eg).tr pn xe) (.Call (.Name a p1) [] [] p2) (fun σZ HZ Q => σZ[i]? = some (some (.ref f)) ∧ HZ c' = some (CodeO c' q) ∧ tl E HZ Q)
theorem CanAct.later {P : Program} {w : World} {K : PySem.W.Frag} {mg : Str → Option Value} {base : Heap} {k : Nat} {q : Str} {f c' : Addr} {tl : XK → Hp → VK → Prop} {s s1 : Shared} {H H1 : Hp} {fs0 : List Addr} (c : CanAct P w K mg base k q f c' tl s H) (un : Un fs0 [] H H1 s.heap s1.heap) (hf : f ∉ fs0) :
    CanAct P w K mg base k q f c' tl s1 H1 := fun fs CXg Ng qg sg g cdg A outer sZ HZ0 Eg un1 hf1 ho hr i a W pn xe E p1 p2 => by
  refine c (fs0 ++ fs) CXg Ng qg sg g cdg A outer sZ HZ0 Eg ((un.mono (fun b hb => List.mem_append_left _ hb) (fun _ z => z)).trans (un1.mono (fun b hb => List.mem_append_right _ hb) (fun _ z => z))) (fun z => ?_) (fun b hb => List.mem_append_right _ (ho b hb)) hr i a W pn xe E p1 p2
  rcases List.mem_append.mp z with z | z
  · exact hf z
  · exact hf1 z
section
variable {X : Cx} {pins : List (Addr × Obj)} {σ : L2.St} {H : Hp} {s : Shared}
/-- a lambda just made can be called -/
theorem canAct_of {f c' : Addr} {pm ctv : Value} {params : Arguments} {body : Expr} {scope : Scope} {k : Nat} {tb : XK → TE}
    (I : Inv X pins σ H s) (L : LamS X.env.scope scope) (hf : s.heap.get? f = some (PySem.W.kla_obj "<lambda>" (X.env.qual ++ "<lambda>") params body scope (cloFrom X.env.cells scope.names []) pm c' ctv)) (hfn : H f = none)
    (hbind : bindArgs (PySem.W.kla_fn "<lambda>" (X.env.qual ++ "<lambda>") params body scope (cloFrom X.env.cells scope.names []) pm (.ref c') ctv) ⟨[], []⟩ = pure [])
    (hbody : ∀ (A : Around) (outer : List Env) (s : Shared) (H : Hp) (E : XK), Room k (A.deeper (lamEnv X scope s.heap.objs.size f c')) → PE (lamCx X A outer s H E scope f c') body (tb E)) :
    CanAct X.prog X.w X.K X.mg X.base k (X.env.qual ++ "<lambda>") f c' (fun E H' Q => tb E σ H' Q) s H := by
  intro fs CXg Ng qg sg g cdg A outer sZ HZ0 Eg un0 hff ho hr i a W pn xe E p1 p2 hN hv hd hcd tk hW
  refine ⟨fun pinsZ s0 σZ HZ Q IZ h => ?_⟩
  obtain ⟨hs, hc, ht⟩ := h
  refine wpAny_Call_Name_kw (thn ((pe_var (pos := p1) (i := i) hN hv hd hcd).run pinsZ s0 σZ HZ (fun v H1 => v = .ref f ∧ H1 = HZ) IZ ⟨.ref f, hs, rfl, rfl⟩) fun u s1 ⟨v, H1, I1, r1, q1⟩ => ?_)
  obtain ⟨ev, eH⟩ := q1
  subst ev
  rw [eH] at I1
  obtain rfl : u = Value.ref f := r1
  have un : Un fs [] H HZ s.heap s1.heap := un0.trans (I1.base.mono ho fun _ z => z)
  have of1 : s1.heap.get? f = some (PySem.W.kla_obj "<lambda>" (X.env.qual ++ "<lambda>") params body scope (cloFrom X.env.cells scope.names []) pm c' ctv) := un.keep f _ hf hfn hff (fun z => nomatch (show f ∈ ([] : List Addr) from z))
  refine PySem.W.callWith_F0 ⟨_, _, _, _, of1⟩ ?_
  obtain ⟨⟨oc, vs, t, hoc, hdc, hvc⟩, _, _⟩ := I1.hok c' _ hc
  have rc : codeAny (model X.prog X.w) (A.deeper (envOfC qg sg sZ.heap.objs.size g cdg)) (.call (.ref f) ⟨[], []⟩) (CR (L2.CX X.prog X.w) (envOfC qg sg sZ.heap.objs.size g cdg :: outer) X.prog X.w HZ s1 Q E) s1 := by
    refine PySem.W.kla_callFunE hr.depth of1 rfl L.co L.gen rfl ⟨c', oc, vs, t, rfl, hoc, hdc, hvc⟩ ?_
    rw [hbind]
    refine wpAny_pure (wpAny_newFunctionEnv (fun y hy => (L.own y hy).2) (fun y hy => absurd hy (by simp)) (fun h₁ hns hsb => ⟨I1.nolimit.fresh _ hsb, ?_⟩) L.kind)
    show codeAny _ _ (.expr body (lamEnv X scope s1.heap.objs.size f c')) _ _
    have kp : ∀ b o, s1.heap.get? b = some o → h₁.get? b = some o := fun b o e => hsb.extBut b o (Nat.ne_of_lt (Heap.lt_size e)) (Heap.get?_push_of_some _ e)
    have J : Inv (lamCx X (A.deeper (envOfC qg sg sZ.heap.objs.size g cdg)) (envOfC qg sg sZ.heap.objs.size g cdg :: outer) s1 HZ E scope f c') [] σ HZ { s1 with heap := h₁, toks := s1.toks + ([] : List (Str × Value)).length } :=
      lam_startG I L I1.env0 hr.hd un hns kp
    refine PySem.W.kla_codeExpr (wpAny_mono ((hbody _ _ s1 HZ E (hr.deeper _)).run [] _ _ HZ Q J ht) (fun v s' hq => ?_) fun e s' hq => hq)
    obtain ⟨w', H', J', rv, q⟩ := hq
    exact ⟨w', H', J'.os, J'.bare, J'.base, J'.hok, rv, q⟩
  have hx : Passes (L2.CX X.prog X.w) ((cxOf CXg X.prog X.w X.K X.mg X.base Ng qg sg g cdg A outer sZ HZ0 Eg).tr pn xe) E := passes_call tk hW
  refine wpAny_call (codeAny_mono rc fun r s' hq => ?_)
  cases r with
  | error e => exact hx pinsZ σZ HZ s1 e s' I1 hq
  | ok fl =>
    cases fl with
    | ret u => exact I1.after hq
    | next => exact False.elim hq
    | brk => exact False.elim hq
    | cont => exact False.elim hq
end
/-- a def of one parameter (Ng: its names, the parameter first) that gets something to call: TT its promise; what the callee raises is caught within -/
structure Gives (P : Program) (w : World) (K : PySem.W.Frag) (mg : Str → Option Value) (base : Heap) (k kl : Nat) (x : Str) (g : Addr) (TT : (XK → Hp → VK → Prop) → Hp → VK → Prop) : Prop where
  m : mg x = some (.ref g)
  kp : PySem.W.keepIn K (.ref g) = true
  run : ∀ (q : Str) (A : Around) (outer : List Env) (f c' : Addr) (s : Shared) (H : Hp) (Q : VK) (tl : XK → Hp → VK → Prop), Room k A → Env0 P w K mg base A outer s H → CanAct P w K mg base kl q f c' tl s H → f ∉ frs outer → f < s.heap.objs.size → H c' = some (CodeO c' q) → TT tl H Q →
    codeAny (model P w) A (.call (.ref g) ⟨[.ref f], []⟩) (CR CX0 outer P w H s Q E0) s
theorem gives_of {P : Program} {w : World} {K : PySem.W.Frag} {mg : Str → Option Value} {base : Heap} {k kl : Nat} {x a : Str} {g : Addr} {fd : FuncData} {pg : Arguments} {bg : List Stmt} {sg : Scope} {Ng : List Str} {TT : (XK → Hp → VK → Prop) → Hp → VK → Prop}
    (F : FunD K x x pg bg sg [] [] g fd) (hm : mg x = some (.ref g)) (Sg : FnScope Ng [a] sg)
    (hb : ∀ (kV doc pm : Value) (an : Option Addr) (cdv ct : Value) (us : List Value), us.length = [a].length → bindArgs (PySem.W.fnOf x x pg bg sg .none kV doc pm an cdv ct) ⟨us, []⟩ = pure ([a].zip us))
    (hG : ∀ (q : Str) (cdg : Value) (A : Around) (outer : List Env) (f c' : Addr) (s : Shared) (H : Hp) (Q : VK) (tl : XK → Hp → VK → Prop), Room k (A.deeper (envOfC x sg s.heap.objs.size g cdg)) → CanAct P w K mg base kl q f c' tl s H → f ∉ frs outer → f < s.heap.objs.size → H c' = some (CodeO c' q) → TT tl H Q →
      ∃ t, PSs (cxOf CX0 P w K mg base Ng x sg g cdg A outer s H E0).nox bg t ∧ t { nx := fun _ H' => Q .non H', rt := Q } (L2.start Ng [.ref f]) H) : Gives P w K mg base (k + 1) kl x g TT := by
  have b := FunD.bindsN F hb
  refine ⟨hm, F.kp, fun q A outer f c' s H Q tl hr e0 act hfo hfs hc hT => ?_⟩
  obtain ⟨oc, od, dV, kV, doc, pm, an, cdv, ct, osl, rfl, lk, hcd, _, _⟩ := F.ex
  refine run_ofS (N := Ng) (ps := [a]) (us := [.ref f]) (vs := [.ref f]) lk hcd Sg hr e0 (b s [.ref f] (e0.mod.kin.keeps fun c o e => (e0.bs c o e).1) rfl) (.cons rfl .nil) rfl fun hr' => ?_
  obtain ⟨t, h1, h2⟩ := hG q cdv A outer f c' s H Q tl hr' act hfo hfs hc hT
  exact ⟨t, h1.nox, h2⟩
section
variable {X : Cx}
/-- x(lambda: body) -/
theorem pe_lam {T : List (Addr × Str)} {TT : (XK → Hp → VK → Prop) → Hp → VK → Prop} {x : Str} {g c P : Addr} {k kl : Nat}
    {params : Arguments} {body : Expr} {scope : Scope} {t : XK → TE} {p lpos pos : Pos} (G : Gives X.prog X.w X.K X.mg X.base k kl x g TT) (hg : Gl X x)
    (TB : TabB X.base X.mg c P) (hcode : X.env.code = .ref c) (hmT : (P, X.env.qual ++ "<lambda>") ∈ T) (hu : ∀ p ∈ T, p.1 = P → p.2 = X.env.qual ++ "<lambda>") (hr : Room k X.A) (L : LamS X.env.scope scope) (hdef : defaultsOf params X.env = ([], []))
    (hbind : ∀ (q : Str) (cl : List (Str × Addr)) (pm cv ctv : Value), bindArgs (PySem.W.kla_fn "<lambda>" q params body scope cl pm cv ctv) ⟨[], []⟩ = pure [])
    (hbody : ∀ (A : Around) (outer : List Env) (s : Shared) (H : Hp) (E : XK) (f c' : Addr), Room kl (A.deeper (lamEnv X scope s.heap.objs.size f c')) → PE (lamCx X A outer s H E scope f c') body (t E))
    (hdb : (x == ("__debug__" : Str)) = false := by decide) :
    PE X (.Call (.Name x p) [.Lambda params body scope lpos] [] pos) (tLam T TT t) := by
  refine ⟨fun pins s σ H Q I h => ?_⟩
  obtain ⟨hT, h⟩ := h
  refine wpAny_Call_Name_kw (ld_glob I hg G.m ?_ hdb)
  refine PySem.W.callWith_K (h₀ := X.base) I.ok.mod.kin G.kp ?_ (by rfl) (by rfl)
  show wpAny _ _ (spliced ((false, eval (.Lambda params body scope lpos) X.env) :: backTo pos (starEach [] X.env))) _ _ s
  refine Calls.spliced_cons (lam_make2 I TB hcode hmT hu hT hdef (L.has I.ok) fun f c' pm' ctv H1 s' I1 eN T1 hf hfn hfr hco => ?_)
  refine Calls.spliced_nil ⟨I1.kIn, ?_⟩
  have act := canAct_of (tb := t) I1 L hf hfn (hbind _ _ _ _ _) (fun A outer s H E hr2 => hbody A outer s H E f c' hr2)
  have rc := G.run _ X.A X.stack f c' s' H1 Q _ hr I1.env0 act hfr (Heap.lt_size hf) hco (h H1 eN T1)
  refine wpAny_call (codeAny_mono rc fun r s2 hq => ?_)
  cases r with
  | error e => exact (show False from hq).elim
  | ok fl =>
    cases fl with
    | ret u => exact I1.after hq
    | next => exact False.elim hq
    | brk => exact False.elim hq
    | cont => exact False.elim hq
end
/-- y(a) in a def that got something to call, y such a def too -/
theorem pe_passOn {P : Program} {w : World} {K : PySem.W.Frag} {mg : Str → Option Value} {base : Heap} {k kl : Nat} {q a y x : Str} {f c' gy g : Addr} {tl : XK → Hp → VK → Prop} {TT : (XK → Hp → VK → Prop) → Hp → VK → Prop} {s : Shared} {H : Hp} {A : Around} {outer : List Env} {Ng : List Str} {sg : Scope} {cdg : Value} {p1 p2 pos : Pos} {i : Nat}
    (G : Gives P w K mg base k kl y gy TT) (act : CanAct P w K mg base kl q f c' tl s H) (hfo : f ∉ frs outer) (hfs : f < s.heap.objs.size) (hr : Room k (A.deeper (envOfC x sg s.heap.objs.size g cdg)))
    (hgy : sg.names.lookup y = some .globalImplicit) (hN : Ng[i]? = some a) (hv : Vis sg a) (hdy : (y == ("__debug__" : Str)) = false := by decide) (hd : (a == ("__debug__" : Str)) = false := by decide) (hcd : (a == ("__classdict__" : Str)) = false := by decide) :
    PE (cxOf CX0 P w K mg base Ng x sg g cdg A outer s H E0).nox (.Call (.Name y p1) [.Name a p2] [] pos) (fun σZ HZ Q => σZ[i]? = some (some (.ref f)) ∧ HZ c' = some (CodeO c' q) ∧ TT tl HZ Q) := by
  refine ⟨fun pins s1 σZ HZ Q I h => ?_⟩
  obtain ⟨hs, hc, hT⟩ := h
  refine wpAny_Call_Name_kw (ld_glob (X := (cxOf CX0 P w K mg base Ng x sg g cdg A outer s H E0).nox) I hgy G.m ?_ hdy)
  refine PySem.W.callWith_K (h₀ := base) I.ok.mod.kin G.kp (thn ((pa_cons (X := (cxOf CX0 P w K mg base Ng x sg g cdg A outer s H E0).nox) (pe_var (pos := p2) (i := i) hN hv hd hcd) pa_nil).run pos pins s1 σZ HZ (fun vs H1 => vs = [.ref f] ∧ H1 = HZ) I ⟨.ref f, hs, rfl, rfl⟩) fun us s2 ⟨vs, H2, I2, r, q2⟩ => ⟨I2.kIn, ?_⟩) (by rfl) (by rfl)
  obtain ⟨ev, eH⟩ := q2
  subst ev
  rw [eH] at I2
  have eu : us = [Value.ref f] := by
    cases r with
    | cons r0 rr =>
      cases rr
      obtain rfl := (show _ = Value.ref f from r0)
      rfl
  subst eu
  have un : Un (frs outer) [] H HZ s.heap s2.heap := I2.base
  have lt2 : s.heap.objs.size ≤ s2.heap.objs.size := I2.sz
  have nfr : f ∉ frs (envOfC x sg s.heap.objs.size g cdg :: outer) := fun z => by
    unfold frs at z
    rw [List.filterMap_cons] at z
    have z' : f ∈ s.heap.objs.size :: frs outer := z
    rcases List.mem_cons.mp z' with e | e
    · exact absurd hfs (by rw [e]; exact Nat.lt_irrefl _)
    · exact hfo e
  have rc := G.run q (A.deeper (envOfC x sg s.heap.objs.size g cdg)) (envOfC x sg s.heap.objs.size g cdg :: outer) f c' s2 HZ Q tl hr I2.env0 (act.later un hfo) nfr (Nat.lt_of_lt_of_le hfs lt2) hc hT
  refine wpAny_call (codeAny_mono rc fun r s3 hq => ?_)
  cases r with
  | error e => exact (show False from hq).elim
  | ok fl =>
    cases fl with
    | ret u => exact I2.after hq
    | next => exact False.elim hq
    | brk => exact False.elim hq
    | cont => exact False.elim hq
end Xh
end
section
set_option Elab.async false
set_option linter.all false
set_option maxRecDepth 100000
set_option maxHeartbeats 2000000
namespace Xh
open PySem PySem.Spec PyProof.Rows L2
/-- a def of the module, called by its name: its promise, its defaults -/
structure Own (P : Program) (w : World) (K : PySem.W.Frag) (mg : Str → Option Value) (base : Heap) (CX : CXT) (k : Nat) (x : Str) (ps : List Str) (dvs : List V) (sp : Sp) : Prop where
  ex : ∃ (f : Addr) (fd : FuncData) (ds : List Value), FnOk P w K mg base CX k f fd ps sp ∧ mg x = some (.ref f) ∧ PySem.W.keepIn K (.ref f) = true ∧ Binds K fd ps ds ∧ Vals dvs ds
/-- .. called with its last parameter by keyword -/
structure OwnK (P : Program) (w : World) (K : PySem.W.Frag) (mg : Str → Option Value) (base : Heap) (CX : CXT) (k n : Nat) (x : Str) (ps ks : List Str) (sp : Sp) : Prop where
  ex : ∃ (f : Addr) (fd : FuncData), FnOk P w K mg base CX k f fd ps sp ∧ mg x = some (.ref f) ∧ PySem.W.keepIn K (.ref f) = true ∧ KBn K fd ps n ks (fun us ws => us ++ ws) (fun vs zs => vs ++ zs)
section
variable {P : Program} {w : World} {K : PySem.W.Frag} {mg : Str → Option Value} {base : Heap} {CX : CXT} {j k n : Nat} {x : Str} {ps ks : List Str} {dvs : List V} {sp sp' : Sp}
theorem Own.mono (O : Own P w K mg base CX j x ps dvs sp) (h : j ≤ k) : Own P w K mg base CX k x ps dvs sp := by
  obtain ⟨f, fd, ds, F, m, kp, b, r⟩ := O.ex
  exact ⟨f, fd, ds, F.mono h, m, kp, b, r⟩
theorem OwnK.mono (O : OwnK P w K mg base CX j n x ps ks sp) (h : j ≤ k) : OwnK P w K mg base CX k n x ps ks sp := by
  obtain ⟨f, fd, F, m, kp, b⟩ := O.ex
  exact ⟨f, fd, F.mono h, m, kp, b⟩
theorem own_of {q : Str} {params : Arguments} {body : List Stmt} {scope : Scope} {f : Addr} {fd : FuncData} (F : FunD K x q params body scope [] [] f fd) (G : FnOk P w K mg base CX k f fd ps sp) (m : mg x = some (.ref f))
    (h : ∀ (kV doc pm : Value) (an : Option Addr) (cdv ct : Value) (us : List Value), us.length = ps.length → bindArgs (PySem.W.fnOf x q params body scope .none kV doc pm an cdv ct) ⟨us, []⟩ = pure (ps.zip us)) : Own P w K mg base CX k x ps [] sp :=
  ⟨f, fd, [], G, m, F.kp, FunD.bindsN F h, .nil⟩
theorem own_ofK {q : Str} {params : Arguments} {body : List Stmt} {scope : Scope} {f : Addr} {fd : FuncData} {kws : List (Str × V)} (F : FunD K x q params body scope [] kws f fd) (G : FnOk P w K mg base CX k f fd ps sp) (m : mg x = some (.ref f))
    (h : ∀ (kV doc pm : Value) (an : Option Addr) (cdv ct : Value) (us ws : List Value), us.length = n → ws.length = ks.length → bindArgs (PySem.W.fnOf x q params body scope .none kV doc pm an cdv ct) ⟨us, ks.zip ws⟩ = pure (ps.zip (us ++ ws))) : OwnK P w K mg base CX k n x ps ks sp := by
  have kp := F.kp
  obtain ⟨oc, od, dV, kV, doc, pm, an, cdv, ct, osl, rfl, lk, hcd, hD, hK⟩ := F.ex
  rcases hD with ⟨_, rfl⟩ | ⟨e, _⟩
  · exact ⟨f, _, G, m, kp, ⟨fun s us ws X l1 l2 => .of_eq (h kV doc pm an cdv ct us ws l1 l2), fun r1 r2 => r1.append r2⟩⟩
  · exact absurd rfl e
theorem own_of0 {q : Str} {params : Arguments} {body : List Stmt} {scope : Scope} {f : Addr} {fd : FuncData} {kws : List (Str × V)} (F : FunD K x q params body scope [] kws f fd) (G : FnOk P w K mg base CX k f fd ps sp) (m : mg x = some (.ref f)) (n : Nat) (hk : kws ≠ []) (hn : n + kws.length = ps.length)
    (h : ∀ (D : Addr) (doc pm : Value) (an : Option Addr) (cdv ct : Value) (us ks : List Value), us.length = n → ks.length = kws.length →
      KwChain D ((kws.map (·.1)).zip ks) (bindArgs (PySem.W.fnOf x q params body scope .none (.ref D) doc pm an cdv ct) ⟨us, []⟩) (ps.zip (us ++ ks))) : Own P w K mg base CX k x ps (kws.map (·.2)) sp := by
  obtain ⟨ds, r, b⟩ := FunD.binds0 F n hk hn h
  exact ⟨f, fd, ds, G, m, F.kp, b, r⟩
end
section
variable {X : Cx} {CX : CXT} {k n : Nat} {x : Str} {ps ks : List Str} {dvs : List V} {sp : Sp} {E : XK} {p pos : Pos} {e : Expr} {es : List Expr} {kws : List Keyword} {t tk : TA}
theorem pe_own (O : Own X.prog X.w X.K X.mg X.base CX k x ps dvs sp) (hr : Room k X.A) (hg : Gl X x) (hx : Passes CX X E) (ha : PA X (e :: es) t) (hdb : (x == ("__debug__" : Str)) = false := by decide)
    (he : starEach (e :: es) X.env = (false, eval e X.env) :: starEach es X.env := by rfl) (hpl : (backTo pos (starEach es X.env)).any (·.1) = false := by rfl) : PE X (.Call (.Name x p) (e :: es) [] pos) (tCall sp dvs E t) := by
  obtain ⟨f, fd, ds, F, m, kp, b, r⟩ := O.ex
  exact pe_call F hr hg m kp b r hx ha hdb he hpl
theorem pe_own0 (O : Own X.prog X.w X.K X.mg X.base CX k x ps dvs sp) (hr : Room k X.A) (hg : Gl X x) (hx : Passes CX X E) (hdb : (x == ("__debug__" : Str)) = false := by decide) : PE X (.Call (.Name x p) [] [] pos) (tCall sp dvs E tNil) := by
  obtain ⟨f, fd, ds, F, m, kp, b, r⟩ := O.ex
  exact pe_call0 F hr hg m kp b r hx hdb
theorem pe_ownK (O : OwnK X.prog X.w X.K X.mg X.base CX k n x ps ks sp) (hr : Room k X.A) (hg : Gl X x) (hx : Passes CX X E)
    (ha : PA X (e :: es) t) (hkw : PK X kws tk) (hall : (backToKw pos (keywordEach kws X.env)).all (·.1.isSome) = true := by rfl) (hks : (backToKw pos (keywordEach kws X.env)).filterMap (·.1) = ks := by rfl)
    (hdb : (x == ("__debug__" : Str)) = false := by decide) (he : starEach (e :: es) X.env = (false, eval e X.env) :: starEach es X.env := by rfl)
    (hpl : ((backTo pos (starEach (e :: es) X.env)).any (·.1) || (backToKw pos (keywordEach kws X.env)).any (·.1.isNone)) = false := by rfl) :
    PE X (.Call (.Name x p) (e :: es) kws pos) (tCallN n ks.length sp (fun vs zs => vs ++ zs) E t tk) := by
  obtain ⟨f, fd, F, m, kp, b⟩ := O.ex
  exact pe_callN F hr hg m kp b hx ha hkw hall hks hdb he hpl
end
end Xh
end
section
set_option Elab.async false
set_option linter.all false
set_option maxRecDepth 100000
set_option maxHeartbeats 0
namespace Xh
open PySem PySem.Spec PyProof.Rows L2 He
/-- where the written part looks: what the names reach in n steps, and the statics -/
def asS (g : Addr → Option Obj) (n : Nat) : List Addr := cStatics :: asD g n
def obsZ (n : Nat) (fa : List Fa) (fn : List DefD) (tf : List Defn) (ex : PySem.W.Frag → Bool) (g : Addr → Option Obj) : AlX :=
  let K := frT g (asS g n)
  (obsT fa fn [] K, ex K && tabsB g tf K)
theorem saysZ {n : Nat} {fa : List Fa} {fn : List DefD} {tf : List Defn} {ex : PySem.W.Frag → Bool} {w : World} {h : Heap} (e : obsZ n fa fn tf ex h.get? = valX fn [] w) :
    SaysX fa fn [] tf ex w h (frT h.get? (asS h.get? n)) := by
  generalize hK : frT h.get? (asS h.get? n) = K
  have e' : (obsT fa fn [] K, ex K && tabsB h.get? tf K) = valX fn [] w := by rw [← hK]; exact e
  injection e' with e1 e2
  rw [Bool.and_eq_true] at e2
  have key : ∀ p ∈ tf, PySem.W.codeHdIn K (cT K p).1 (cT K p).2 = true ∧ ∃ o, h.get? (cT K p).2 = some o ∧ emptyTab o = true := by
    intro p hp
    have z := List.all_eq_true.mp e2.2 p hp
    rw [Bool.and_eq_true] at z
    refine ⟨z.1, ?_⟩
    have z2 := z.2
    split at z2
    · exact ⟨_, ‹_›, z2⟩
    · cases z2
  refine ⟨e1, e2.1, fun p hp => (key p hp).1, fun p hp => ?_, fun p hp => ?_⟩
  · obtain ⟨_, o, q, z⟩ := key p hp
    rw [← hK] at q ⊢
    exact frT_none q z
  · obtain ⟨_, o, q, z⟩ := key p hp
    rw [q, emptyTab_eq z]
def hookZ (n : Nat) (fa : List Fa) (fn : List DefD) (tf : List Defn) (ex : PySem.W.Frag → Bool) : PySem.W.Hook where
  α := AlX
  obs := fun s => obsZ n fa fn tf ex s.heap.get?
  val := fun w => valX fn [] w
  says := fun w h => ∃ K : PySem.W.Frag, K.In h ∧ SaysX fa fn [] tf ex w h K
  of := fun _ _ e => ⟨_, frT_in, saysZ e⟩
  keeps := fun _ _ _ ⟨K, hK, c⟩ k => ⟨K, PySem.W.Frag.In.keeps hK k, ⟨c.t, c.more, c.hd, c.out, fun p hp => k _ _ (c.empty p hp)⟩⟩
theorem obsZ_eq {n : Nat} {fa : List Fa} {fn : List DefD} {tf : List Defn} {ex : PySem.W.Frag → Bool} {g : Addr → Option Obj} {s : Shared} (h : ∀ a, g a = s.heap.get? a) :
    obsZ n fa fn tf ex g = (hookZ n fa fn tf ex).obs s := by
  have e : g = s.heap.get? := funext h
  subst e
  rfl
end Xh
end
section
set_option Elab.async false
set_option linter.all false
set_option maxRecDepth 100000
set_option maxHeartbeats 2000000
/-! a lambda as a thing that is handed about: with parameters, kept, called in another def -/
namespace Xh
open PySem PySem.Spec PyProof.Rows L2 LamX NdefX
/-- at f stands the lambda of the words F and the body b -/
def LamO (f : Addr) (F : NF) (b : Expr) : HO := .ext fun h => ∃ pm ctv : Value, h.get? f = some (PySem.W.kla_obj "<lambda>" F.qual F.params b F.scope F.cl pm F.c ctv)
theorem lamO_ne {f : Addr} {F : NF} {b : Expr} (ps : Array Value) : LamO f F b ≠ .tbl ps := fun z => by
  unfold LamO at z
  cases z
theorem lamO_at {P : Program} {w : World} {H : Hp} {h : Heap} {f : Addr} {F : NF} {b : Expr} (hok : HOk P w H h) (e : H f = some (LamO f F b)) : ∃ pm ctv : Value, h.get? f = some (PySem.W.kla_obj "<lambda>" F.qual F.params b F.scope F.cl pm F.c ctv) := (hok f _ e).1
/-- all but the tables stays, nothing tracked is lost, the tables are tables -/
structure Gr (T : List (Addr × Str)) (H H' : Hp) : Prop where
  x : ExtN H H'
  n : ∀ b, H' b = none → H b = none
  t : Tabs T H'
section
variable {T : List (Addr × Str)} {H H1 H2 : Hp}
theorem Gr.refl (t : Tabs T H) : Gr T H H := ⟨ExtN.refl H, fun _ e => e, t⟩
theorem Gr.trans (a : Gr T H H1) (b : Gr T H1 H2) : Gr T H H2 := ⟨a.x.trans b.x, fun c e => a.n c (b.n c e), b.t⟩
theorem Gr.of (t : Tabs T H) (s : Same H H1) : Gr T H H1 := ⟨ExtN.of s, fun b e => s.free e, t.ext s⟩
theorem Gr.same (a : Gr T H H1) (s : Same H1 H2) : Gr T H H2 := a.trans (.of a.t s)
end
section
variable {X : Cx} {pins : List (Addr × Obj)} {σ : L2.St} {H : Hp} {s : Shared}
theorem inv_lamO {F : NF} {b : Expr} {pm ctv : Value} {t' : Nat} (I : Inv X pins σ H s) :
    Inv X pins σ (upd H s.heap.objs.size (LamO s.heap.objs.size F b)) { s with heap := s.heap.push (PySem.W.kla_obj "<lambda>" F.qual F.params b F.scope F.cl pm F.c ctv), toks := t' } := by
  have e : (s.heap.push (PySem.W.kla_obj "<lambda>" F.qual F.params b F.scope F.cl pm F.c ctv)).get? s.heap.objs.size = some (PySem.W.kla_obj "<lambda>" F.qual F.params b F.scope F.cl pm F.c ctv) := Heap.get?_push_size _ rfl
  exact I.laid (fun c u q => Heap.get?_push_of_some _ q) (Nat.le_refl _) ⟨⟨pm, ctv, e⟩, ⟨_, e⟩, fun g1 g2 ⟨u, v, z⟩ st => ⟨u, v, st _ z⟩⟩
/-- the lambda's words, by the maker's context -/
def lamF (X : Cx) (params : Arguments) (scope : Scope) (c' : Addr) : NF := ⟨"<lambda>", X.env.qual ++ "<lambda>", params, [], scope, cloFrom X.env.cells scope.names [], c'⟩
theorem lamV_make {T : List (Addr × Str)} {c P : Addr} {params : Arguments} {body : Expr} {scope : Scope} {pos : Pos} {E : Value → Shared → Prop} {Q : Value → Shared → Prop} (I : Inv X pins σ H s) (TB : TabB X.base X.mg c P) (hcode : X.env.code = .ref c)
    (hm : (P, X.env.qual ++ "<lambda>") ∈ T) (hu : ∀ p ∈ T, p.1 = P → p.2 = X.env.qual ++ "<lambda>") (hT : Tabs T H) (hdef : defaultsOf params X.env = ([], [])) (hfree : ∀ y ∈ scope.names, y.2 = .free → ∃ c, X.env.cells.lookup y.1 = some c)
    (fin : ∀ (f c' : Addr) (H1 : Hp) (s' : Shared), Inv X pins σ H1 s' → Gr T H H1 → H f = none → H1 f = some (LamO f (lamF X params scope c') body) → H1 c' = some (CodeO c' (X.env.qual ++ "<lambda>")) → f ∉ frs X.stack → Q (.ref f) s') :
    wpAny (model X.prog X.w) X.A (eval (.Lambda params body scope pos) X.env) Q E s := by
  obtain ⟨tb, onP, good, known⟩ := hT _ hm
  have inHeap : s.heap.get? P = some { cls := .none, data := .fields tb } := I.hok P _ onP
  have bt : s.heap.BuiltinsAt X.mg P := TB.bm.keeps I.bk
  have off : ∀ f, s.heap.objs.size ≤ f → f ∉ frs X.stack := fun f le z => by
    rcases List.mem_cons.mp (I.stkSub _ z) with e | e
    · exact absurd I.lt (by rw [← e]; exact Nat.not_lt_of_le le)
    · exact I.nofs le e
  refine PySem.W.kla_eval hdef ?_
  cases look : codeAmong pos tb.toList with
  | some cv =>
    obtain ⟨c', rfl, co⟩ := known pos cv look
    refine PySem.W.kla_makeFunctionHit (mg := X.mg) (c := c) (P := P) (ps := tb) (closure_ok hfree) I.ok.glob (I.mod.glob.keeps I.bk) hcode (TB.code.keeps I.bk) inHeap good look bt fun ctv g tk up le => ?_
    have J : Inv X pins σ H { s with heap := g, toks := tk } := I.kept up
    have nw : H g.objs.size = none := J.hok.fresh (Nat.le_refl _)
    have sm : Same H (upd H g.objs.size (LamO g.objs.size (lamF X params scope c') body)) := fun b u e => by rw [upd_ne (ne_of_none e nw)]; exact e
    exact fin g.objs.size c' _ _ (inv_lamO (F := lamF X params scope c') (b := body) (pm := (X.mg "__name__").getD .none) (ctv := ctv) (t' := tk) J) (.of hT sm) nw upd_same (sm _ _ co) (off _ le)
  | none =>
    refine PySem.W.kla_makeFunction (mg := X.mg) (c := c) (P := P) (ps := tb) (closure_ok hfree) I.ok.glob (I.mod.glob.keeps I.bk) hcode (TB.code.keeps I.bk) inHeap good look TB.gP bt fun c' ctv g tk but le lt rec tab => ?_
    obtain ⟨c2, oc, vs, t, e2, g1, g2, g3⟩ := rec
    cases e2
    have nC : H c' = none := I.hok.fresh le
    have J := inv_table (t' := tk) (more := #[rawInt pos.line, rawInt pos.col, .ref c']) (h' := g) I onP (fun b o hb e => but b o hb e) tab le ⟨oc, vs, t, g1, g2, g3⟩
    have ex : ExtN H (upd (upd H P (.tbl (tb ++ #[rawInt pos.line, rawInt pos.col, .ref c']))) c' (CodeO c' (X.env.qual ++ "<lambda>"))) := fun b o e no => by
      have b1 : b ≠ P := fun z => by
        rw [z, onP] at e
        exact no tb (Option.some.inj e).symm
      rw [upd_ne (ne_of_none e nC), upd_ne b1]
      exact e
    have nn : ∀ b, upd (upd H P (.tbl (tb ++ #[rawInt pos.line, rawInt pos.col, .ref c']))) c' (CodeO c' (X.env.qual ++ "<lambda>")) b = none → H b = none := fun b e => upd_none (upd_none e)
    have lst : (tb ++ #[rawInt pos.line, rawInt pos.col, .ref c']).toList = tb.toList ++ [rawInt pos.line, rawInt pos.col, .ref c'] := by simp
    have tabs : Tabs T (upd (upd H P (.tbl (tb ++ #[rawInt pos.line, rawInt pos.col, .ref c']))) c' (CodeO c' (X.env.qual ++ "<lambda>"))) := fun p hp => by
      by_cases same : p.1 = P
      · refine ⟨_, by rw [same, upd_ne (ne_of_none onP nC), upd_same], by rw [lst]; exact PySem.TriplesOk_snoc _ _ _ _ good, fun p' cv q => ?_⟩
        rw [lst] at q
        rw [hu p hp same]
        rcases among_app _ good q with z | z
        · obtain ⟨c0, a1, a2⟩ := known p' cv z
          exact ⟨c0, a1, ex _ _ a2 codeO_ne⟩
        · exact ⟨c', z, upd_same⟩
      · obtain ⟨tb2, a1, a2, a3⟩ := hT p hp
        refine ⟨tb2, by rw [upd_ne (ne_of_none a1 nC), upd_ne same]; exact a1, a2, fun p' cv q => ?_⟩
        obtain ⟨c0, d1, d2⟩ := a3 p' cv q
        exact ⟨c0, d1, ex _ _ d2 codeO_ne⟩
    have nw := J.hok.fresh (Nat.le_refl g.objs.size)
    have sm := fun (o : HO) => (show Same _ (upd _ g.objs.size o) from fun b u e => by rw [upd_ne (ne_of_none e nw)]; exact e)
    exact fin g.objs.size c' _ _ (inv_lamO (F := lamF X params scope c') (b := body) (pm := (X.mg "__name__").getD .none) (ctv := ctv) (t' := tk) J) ((Gr.mk ex nn tabs).same (sm _)) (nn _ nw) upd_same (sm _ _ _ upd_same) (off _ (Nat.le_trans le (Nat.le_of_lt lt)))
end
/-- the lambda as a value -/
def tLamV (X : Cx) (T : List (Addr × Str)) (params : Arguments) (scope : Scope) (body : Expr) : TE := fun _ H Q => Tabs T H ∧ ∀ (f c' : Addr) (H1 : Hp), Gr T H H1 → H f = none → H1 f = some (LamO f (lamF X params scope c') body) → H1 c' = some (CodeO c' (X.env.qual ++ "<lambda>")) → f ∉ frs X.stack → Q (.ref f) H1
theorem pe_lamV {X : Cx} {T : List (Addr × Str)} {c P : Addr} {params : Arguments} {body : Expr} {scope : Scope} {pos : Pos} (TB : TabB X.base X.mg c P) (hcode : X.env.code = .ref c) (hm : (P, X.env.qual ++ "<lambda>") ∈ T) (hu : ∀ p ∈ T, p.1 = P → p.2 = X.env.qual ++ "<lambda>")
    (hdef : defaultsOf params X.env = ([], [])) (hfree : ∀ y ∈ scope.names, y.2 = .free → X.env.scope.names.lookup y.1 = some .cell ∨ X.env.scope.names.lookup y.1 = some .free) : PE X (.Lambda params body scope pos) (tLamV X T params scope body) := by
  refine ⟨fun pins s σ H Q I h => ?_⟩
  obtain ⟨hT, h⟩ := h
  have hfr : ∀ y ∈ scope.names, y.2 = .free → ∃ c, X.env.cells.lookup y.1 = some c := fun y hy e => (hfree y hy e).elim (fun z => I.ok.has _ (.inl z)) fun z => I.ok.has _ (.inr z)
  exact lamV_make I TB hcode hm hu hT hdef hfr fun f c' H1 s' J g n e1 e2 e3 => ⟨.ref f, H1, J, rfl, h f c' H1 g n e1 e2 e3⟩
/-! ### its promise -/
structure NOkL (P : Program) (w : World) (K : PySem.W.Frag) (mg : Str → Option Value) (base : Heap) (CX : CXT) (k : Nat) (f : Addr) (F : NF) (b : Expr) (ps fr : List Str) (sp : List (Option V) → Sp) : Prop where
  run : ∀ (A : Around) (outer : List Env) (s : Shared) (H : Hp) (us : List Value) (vs : List V) (ws : List (Option V)) (Q : VK) (E : XK), Room k A → Env0 P w K mg base A outer s H → H f = some (LamO f F b) → H F.c = some (CodeO F.c F.qual) →
    CellsAt F.cl fr ws s.heap H → Vals vs us → sp ws vs H Q E → codeAny (model P w) A (.call (.ref f) ⟨us, []⟩) (CR CX outer P w H s Q E) s
section
variable {CX : CXT} {P : Program} {w : World} {K : PySem.W.Frag} {mg : Str → Option Value} {base : Heap} {N ps fr : List Str} {F : NF} {b : Expr} {f : Addr} {k : Nat} {sp : List (Option V) → Sp}
theorem nokL_of (S : NScope N ps fr F.scope) (hb : ∀ (pm ctv : Value) (us : List Value), us.length = ps.length → bindArgs (PySem.W.kla_fn "<lambda>" F.qual F.params b F.scope F.cl pm (.ref F.c) ctv) ⟨us, []⟩ = pure (ps.zip us)) (len : ∀ ws vs H Q E, sp ws vs H Q E → vs.length = ps.length)
    (hbody : ∀ (A : Around) (outer : List Env) (s : Shared) (H : Hp) (vs : List V) (ws : List (Option V)) (Q : VK) (E : XK), Room k (A.deeper (envF F f s.heap.objs.size)) → ws.length = fr.length → sp ws vs H Q E →
      ∃ t, PE (ncx CX P w K mg base N F f A outer s H E) b t ∧ t (startF N vs ws) H Q) : NOkL P w K mg base CX (k + 1) f F b ps fr sp := by
  refine ⟨fun A outer s H us vs ws Q E room e0 hf hc C r hsp => ?_⟩
  have many := len _ _ _ _ _ hsp
  obtain ⟨pm, ctv, onF⟩ := lamO_at e0.hok hf
  have lim : s.heap.NoLimit := e0.mod.nolimit.keeps fun c o e => (e0.bs c o e).1
  refine PySem.W.kla_callFunE room.depth onF rfl S.co S.gen rfl (codeO_at e0.hok hc) ?_
  rw [hb pm ctv us (by rw [← r.length]; exact many)]
  refine wpAny_pure (wpAny_newFunctionEnv S.nocell (fun ⟨n, _⟩ hy => S.par n (List.of_mem_zip hy).1) (fun h₁ hns hsb => ⟨lim.fresh _ hsb, ?_⟩) S.kind)
  show codeAny _ _ (.expr b (envF F f s.heap.objs.size)) _ _
  have up : ∀ c o, s.heap.get? c = some o → h₁.get? c = some o := fun c o e => hsb.extBut c o (Nat.ne_of_lt (Heap.lt_size e)) (Heap.get?_push_of_some _ e)
  obtain ⟨t, ht, q⟩ := hbody A outer s H vs ws Q E (room.deeper _) C.len hsp
  have I : Inv (ncx CX P w K mg base N F f A outer s H E) [] (startF N vs ws) H { s with heap := h₁, toks := s.toks + (ps.zip us).length } := inv_startN S room.hd e0 many r C hns up
  refine PySem.W.kla_codeExpr (wpAny_mono (ht.run [] _ _ H Q I q) (fun u s' z => ?_) fun e s' z => z)
  obtain ⟨v, H', J, rv, y⟩ := z
  exact ⟨v, H', J.os, J.bare, J.base, J.hok, rv, y⟩
/-- the cells hold what they held -/
theorem cells_on {cl : List (Str × Addr)} {ws : List (Option V)} {fs : List Addr} {H H1 : Hp} {h h1 : Heap} (C : CellsAt cl fr ws h H) (un : Un fs [] H H1 h h1) : CellsAt cl fr ws h1 H1 := by
  have kp : ∀ y c, cl.lookup y = some c → ∀ v, h.IsCell c v → h1.IsCell c v := fun y c e v ⟨o, a1, a2⟩ => by
    obtain ⟨sl, q⟩ := un.any a1 (C.all y c e).1 (fun z => nomatch z)
    exact ⟨_, q, a2⟩
  refine ⟨C.len, fun y c e => ?_, C.inj, fun i y e => ?_⟩
  · obtain ⟨no, v, z⟩ := C.all y c e
    obtain ⟨o, ho, _⟩ := id z
    exact ⟨un.free c o ho no (fun z => nomatch z), v, kp y c e v z⟩
  · obtain ⟨c, a1, a2⟩ := C.has i y e
    refine ⟨c, a1, fun v ev => ?_⟩
    obtain ⟨u, r, z⟩ := a2 v ev
    exact ⟨u, r, kp y c a1 _ z⟩
end
/-- what is known of the thing at f, and of what it does with what its cells hold -/
def spGot (f : Addr) (F : NF) (b : Expr) (ws : List (Option V)) (sp : List (Option V) → Sp) : Sp := fun vs H Q E => H f = some (LamO f F b) ∧ H F.c = some (CodeO F.c F.qual) ∧ sp ws vs H Q E
section
variable {X : Cx} {CX : CXT} {F : NF} {b : Expr} {ps fr : List Str} {ws : List (Option V)} {i j k : Nat} {f : Addr} {x : Str} {sp : List (Option V) → Sp} {E : XK} {t : TA} {e : Expr} {es : List Expr} {p pos : Pos}
/-- x(..), x a name that holds a lambda of another frame -/
theorem pe_callP (Fn : NOkL X.prog X.w X.K X.mg X.base CX k f F b ps fr sp) (C : CellsAt F.cl fr ws X.s_0.heap X.H_0) (hex : X.ex = []) (hr : Room j X.A) (hk : k ≤ j) (hx : Passes CX X E) (hN : X.N[i]? = some x) (hv : Vis X.env.scope x) (ha : PA X (e :: es) t)
    (hd : (x == ("__debug__" : Str)) = false := by decide) (hcd : (x == ("__classdict__" : Str)) = false := by decide)
    (he : starEach (e :: es) X.env = (false, eval e X.env) :: starEach es X.env := by rfl) (hpl : (backTo pos (starEach es X.env)).any (·.1) = false := by rfl) :
    PE X (.Call (.Name x p) (e :: es) [] pos) (fun σ H Q => σ[i]? = some (some (.ref f)) ∧ H f = some (LamO f F b) ∧ t σ H fun vs H1 => spGot f F b ws sp vs H1 Q E) := by
  refine ⟨fun pins s σ H Q I h => ?_⟩
  obtain ⟨hs, hf, ht⟩ := h
  have at_ : ∀ {H : Hp} {s : Shared}, Inv X pins σ H s → H f = some (LamO f F b) → PySem.W.FnAt f s.heap := fun J e => by
    obtain ⟨pm, ctv, o⟩ := lamO_at J.hok e
    exact ⟨_, _, _, _, o⟩
  refine wpAny_Call_Name_kw (thn ((pe_var (pos := p) hN hv hd hcd).run pins s σ H (fun v H1 => v = .ref f ∧ H1 = H) I ⟨.ref f, hs, rfl, rfl⟩) fun u s1 ⟨v, H1, I1, r1, q1⟩ => ?_)
  obtain ⟨ev, eH⟩ := q1
  subst ev
  rw [eH] at I1
  obtain rfl : u = Value.ref f := r1
  refine PySem.W.callWith_F (first := []) (at_ I1 hf) (thn (ha.run pos pins s1 σ H _ I1 ht) fun us s2 ⟨vs, H2, I2, r, h1, h2, q⟩ => ⟨at_ I2 h1, ?_⟩) he hpl
  show wpAny _ _ (call (.ref f) us) _ _ _
  have un := I2.base
  rw [hex] at un
  refine wpAny_call (codeAny_mono (Fn.run X.A X.stack s2 H2 us vs _ Q E (hr.mono hk) I2.env0 h1 h2 (cells_on C un) r q) fun r s' hq => ?_)
  cases r with
  | error e => exact hx pins σ H2 s2 e s' I2 hq
  | ok fl =>
    cases fl with
    | ret u => exact I2.after hq
    | next => exact False.elim hq
    | brk => exact False.elim hq
    | cont => exact False.elim hq
end
/-! ### a def that gets a lambda to call -/
structure GivesV (P : Program) (w : World) (K : PySem.W.Frag) (mg : Str → Option Value) (base : Heap) (k kl : Nat) (x : Str) (g : Addr) (TT : Addr → Sp → Sp) : Prop where
  m : mg x = some (.ref g)
  kp : PySem.W.keepIn K (.ref g) = true
  run : ∀ (A : Around) (outer : List Env) (f : Addr) (F : NF) (b : Expr) (lps fr : List Str) (ws : List (Option V)) (spl : List (Option V) → Sp) (s : Shared) (H : Hp) (us : List Value) (vs : List V) (Q : VK), Room k A → Env0 P w K mg base A outer s H → NOkL P w K mg base CX0 kl f F b lps fr spl → CellsAt F.cl fr ws s.heap H → H f = some (LamO f F b) → Vals vs us → TT f (spGot f F b ws spl) vs H Q E0 →
    codeAny (model P w) A (.call (.ref g) ⟨us, []⟩) (CR CX0 outer P w H s Q E0) s
theorem givesV_of {P : Program} {w : World} {K : PySem.W.Frag} {mg : Str → Option Value} {base : Heap} {k kl : Nat} {x : Str} {g : Addr} {fd : FuncData} {pg : Arguments} {bg : List Stmt} {sg : Scope} {Ng ps : List Str} {TT : Addr → Sp → Sp}
    (F : FunD K x x pg bg sg [] [] g fd) (hm : mg x = some (.ref g)) (Sg : FnScope Ng ps sg)
    (hb : ∀ (kV doc pm : Value) (an : Option Addr) (cdv ct : Value) (us : List Value), us.length = ps.length → bindArgs (PySem.W.fnOf x x pg bg sg .none kV doc pm an cdv ct) ⟨us, []⟩ = pure (ps.zip us))
    (len : ∀ f c vs H Q E, TT f c vs H Q E → vs.length = ps.length)
    (hG : ∀ (cdg : Value) (A : Around) (outer : List Env) (f : Addr) (F : NF) (b : Expr) (lps fr : List Str) (ws : List (Option V)) (spl : List (Option V) → Sp) (s : Shared) (H : Hp) (vs : List V) (Q : VK), Room k (A.deeper (envOfC x sg s.heap.objs.size g cdg)) → NOkL P w K mg base CX0 kl f F b lps fr spl → CellsAt F.cl fr ws s.heap H → H f = some (LamO f F b) → TT f (spGot f F b ws spl) vs H Q E0 →
      ∃ t, PSs (cxOf CX0 P w K mg base Ng x sg g cdg A outer s H E0).nox bg t ∧ t { nx := fun _ H' => Q .non H', rt := Q } (L2.start Ng vs) H) : GivesV P w K mg base (k + 1) kl x g TT := by
  have bd := FunD.bindsN F hb
  refine ⟨hm, F.kp, fun A outer f FF b lps fr ws spl s H us vs Q room e0 Fn C hf r hT => ?_⟩
  have many := len _ _ _ _ _ _ hT
  obtain ⟨oc, od, dV, kV, doc, pm, an, cdv, ct, osl, rfl, lk, hcd, _, _⟩ := F.ex
  refine run_ofS (N := Ng) (ps := ps) (us := us) (vs := vs) lk hcd Sg room e0 (by
      have z := bd s us (e0.mod.kin.keeps fun c o e => (e0.bs c o e).1) (by rw [List.append_nil, ← r.length]; exact many)
      rw [List.append_nil] at z
      exact z) r many fun room' => ?_
  obtain ⟨t, h1, h2⟩ := hG cdv A outer f FF b lps fr ws spl s H vs Q room' Fn C hf hT
  exact ⟨t, h1.nox, h2⟩
/-- g(lambda, ..): the call -/
def tGiveV (mk : Addr → NF) (b : Expr) (js : List Nat) (TT : Addr → Sp → Sp) (sp : List (Option V) → Sp) (t : TA) : TE := fun σ H Q => t σ H fun vs H1 => ∃ f c', H1 f = some (LamO f (mk c') b) ∧ TT f (spGot f (mk c') b (js.map (slotAt σ)) sp) vs H1 Q E0
theorem pe_giveV {X : Cx} {k kl : Nat} {g : Addr} {TT : Addr → Sp → Sp} {mk : Addr → NF} {cl : List (Str × Addr)} {lps fr : List Str} {js : List Nat} {x : Str} {sp : List (Option V) → Sp} {t : TA} {b e : Expr} {es : List Expr} {p pos : Pos}
    (G : GivesV X.prog X.w X.K X.mg X.base k kl x g TT) (Fn : ∀ f c', NOkL X.prog X.w X.K X.mg X.base CX0 kl f (mk c') b lps fr sp) (hcl : ∀ c', (mk c').cl = cl) (cp : X.Ok → Caps X cl fr js) (hr : Room k X.A) (hg : Gl X x) (ha : PA X (e :: es) t)
    (hdb : (x == ("__debug__" : Str)) = false := by decide) (he : starEach (e :: es) X.env = (false, eval e X.env) :: starEach es X.env := by rfl) (hpl : (backTo pos (starEach es X.env)).any (·.1) = false := by rfl) :
    PE X (.Call (.Name x p) (e :: es) [] pos) (tGiveV mk b js TT sp t) := by
  refine ⟨fun pins s σ H Q I h => ?_⟩
  refine wpAny_Call_Name_kw (ld_glob I hg G.m ?_ hdb)
  refine PySem.W.callWith_K (h₀ := X.base) I.ok.mod.kin G.kp (thn (ha.run pos pins s σ H _ I h) fun us s2 ⟨vs, H2, I2, r, q2⟩ => ⟨I2.kIn, ?_⟩) he hpl
  obtain ⟨f, c', h1, hT⟩ := q2
  have C : CellsAt (mk c').cl fr (js.map (slotAt σ)) s2.heap H2 := by
    rw [hcl c']
    exact cells_of I2 (cp I2.ok)
  show wpAny _ _ (call (.ref g) us) _ _ _
  refine wpAny_call (codeAny_mono (G.run X.A X.stack f (mk c') b lps fr _ sp s2 H2 us vs Q hr I2.env0 (Fn f c') C h1 r hT) fun r s3 hq => ?_)
  cases r with
  | error e => exact (show False from hq).elim
  | ok fl =>
    cases fl with
    | ret u => exact I2.after hq
    | next => exact False.elim hq
    | brk => exact False.elim hq
    | cont => exact False.elim hq
/-- a def whose own code object is known -/
theorem FunD_okC {P : Program} {w : World} {K : PySem.W.Frag} {mg : Str → Option Value} {base : Heap} {x qual : Str} {params : Arguments} {body : List Stmt} {scope : Scope} {dvs : List V} {kws : List (Str × V)} {f c : Addr} {fd : FuncData} {CX : CXT} {N ps : List Str} {k : Nat} {sp : Sp} (F : FunD K x qual params body scope dvs kws f fd) (hc : fd.code = .ref c) (S : FnScope N ps scope) (len : ∀ vs H Q E, sp vs H Q E → vs.length = ps.length)
    (hbody : ∀ (A : Around) (outer : List Env) (s : Shared) (H : Hp) (vs : List V) (Q : VK) (E : XK), Room k (A.deeper (envOfC qual scope s.heap.objs.size f (.ref c))) → sp vs H Q E →
      ∃ t, PSs (cxOf CX P w K mg base N qual scope f (.ref c) A outer s H E) body t ∧ t { nx := fun _ H' => Q .non H', rt := Q } (start N vs) H) : FnOk P w K mg base CX (k + 1) f fd ps sp := by
  obtain ⟨oc, od, dV, kV, doc, pm, an, cdv, ct, osl, rfl, lk, hcd, _, _⟩ := F.ex
  obtain rfl : cdv = .ref c := hc
  exact fn_of lk hcd S len fun A outer s H vs Q E hr hsp => hbody A outer s H vs Q E hr hsp
end Xh
end
section
set_option Elab.async false
set_option linter.all false
set_option maxRecDepth 100000
set_option maxHeartbeats 4000000
namespace Xk
open PySem PySem.Spec PyProof.Rows L2 Xh
def topS (i : Nat) : Stmt := PySem.Challenge.pw_rungfields_k01_rests_undone_and_powered.main.body.getD i (.Pass ⟨0, 0, 0, 0⟩)
/-- names that are the built-in ones still -/
structure Fre (mg : Str → Option Value) : Prop where
  f_len : mg "len" = none
  f_abs : mg "abs" = none
  f_list : mg "list" = none
  f_tuple : mg "tuple" = none
  f_int : mg "int" = none
  f_bool : mg "bool" = none
  f_str : mg "str" = none
  f_isinstance : mg "isinstance" = none
  f_range : mg "range" = none
  f_all : mg "all" = none
  f_zip : mg "zip" = none
/-! ### what is drawn -/
/-- a row of draws stands at d -/
def Draw (H : Hp) (d : Addr) : Prop := ∃ (c : Addr) (ns : List Int) (i : Nat) (r g : Int), H d = some (.lst [.ref c, .int i, .int r, .int g]) ∧ H c = some (.lst (ns.map V.int)) ∧ 0 ≤ g ∧ g < 2147483647
/-- all but what stands at d is as it was -/
def But (d : Addr) (H H' : Hp) : Prop := ∀ b o, b ≠ d → H b = some o → H' b = some o
theorem But.refl (d : Addr) (H : Hp) : But d H H := fun _ _ _ e => e
theorem But.trans {d : Addr} {H H1 H2 : Hp} (a : But d H H1) (b : But d H1 H2) : But d H H2 := fun c o h e => b c o h (a c o h e)
theorem But.same {d : Addr} {H H1 : Hp} (a : Same H H1) : But d H H1 := fun c o _ e => a c o e
theorem But.upd {d : Addr} {H : Hp} {o : HO} : But d H (upd H d o) := fun b u h e => by rw [upd_ne h]; exact e
theorem But.updN {d p : Addr} {H : Hp} {o : HO} (h : H p = none) : But d H (L2.upd H p o) := fun b u _ e => by rw [upd_ne (ne_of_none e h)]; exact e
theorem But.free {d p : Addr} {H H' : Hp} (a : But d H H') (h : H' p = none) (hd : p ≠ d) : H p = none := by
  cases q : H p with
  | none => rfl
  | some o =>
    rw [a p o hd q] at h
    cases h
theorem same_upd {p : Addr} {H : Hp} {o : HO} (h : H p = none) : Same H (L2.upd H p o) := fun b u e => by rw [upd_ne (ne_of_none e h)]; exact e
theorem Draw.there {H : Hp} {d : Addr} (D : Draw H d) : ∃ o, H d = some o := by
  obtain ⟨c, ns, i, r, g, h, _⟩ := D
  exact ⟨_, h⟩
theorem Draw.same {H H' : Hp} {d : Addr} (D : Draw H d) (s : Same H H') : Draw H' d := by
  obtain ⟨c, ns, i, r, g, h1, h2, h3⟩ := D
  exact ⟨c, ns, i, r, g, s _ _ h1, s _ _ h2, h3⟩
theorem Draw.ne {H : Hp} {d p : Addr} (D : Draw H d) (h : H p = none) : p ≠ d := fun z => by
  obtain ⟨o, e⟩ := D.there
  rw [z, e] at h
  cases h
theorem But.seq {K : PySem.W.Frag} {d a : Addr} {H H' : Hp} {xs : List V} (b : But d H H') (hd : a ≠ d) (h : SqL K H a xs) : SqL K H' a xs := by
  rcases h with (h | ⟨o, h⟩) | h
  · exact .inl (.inl (b _ _ hd h))
  · exact .inl (.inr ⟨o, b _ _ hd h⟩)
  · exact .inr h
/-- a row that is not the drawing one -/
theorem Draw.apart {H : Hp} {d p : Addr} {ns : List Int} (D : Draw H d) (h : H p = some (.lst (ns.map V.int))) : p ≠ d := fun z => by
  obtain ⟨c, ms, i, r, g, h1, h2, h3⟩ := D
  rw [z, h1] at h
  cases ns with
  | nil => cases h
  | cons n ns => cases h
theorem cutV_ints (ns : List Int) (lo hi : Option Int) : ∃ ms : List Int, cutV (ns.map V.int) lo hi = ms.map V.int := by
  refine ⟨(ns.drop (HT.sIx ns.length 0 lo)).take (HT.sIx ns.length ns.length hi - HT.sIx ns.length 0 lo), ?_⟩
  unfold cutV
  rw [List.length_map, ← List.map_drop, ← List.map_take]
theorem ne_of_none' {H : Hp} {a b : Addr} {o : HO} (h : H a = none) (h' : H b = some o) : a ≠ b := fun z => by
  rw [z, h'] at h
  cases h
def spBegin (K : PySem.W.Frag) : Sp := fun vs H Q _ => ∃ (a : Addr) (ns : List Int), vs = [.ref a] ∧ SqL K H a (ns.map V.int) ∧ ∀ d H', Same H H' → H d = none → Draw H' d → Q (.ref d) H'
def spTake : Sp := fun vs H Q _ => ∃ (d : Addr) (n : Int), vs = [.ref d, .int n] ∧ Draw H d ∧ 1 ≤ n ∧ n.natAbs < 2 ^ 200 ∧ ∀ (m : Int) (H' : Hp), 0 ≤ m → m < n → Draw H' d → But d H H' → Q (.int m) H'
def spOf (K : PySem.W.Frag) : Sp := fun vs H Q _ => ∃ (d a : Addr) (xs : List V), vs = [.ref d, .ref a] ∧ Draw H d ∧ SqL K H a xs ∧ a ≠ d ∧ 0 < xs.length ∧ xs.length ≤ 1000 ∧ ∀ (x : V) (H' : Hp), x ∈ xs → Draw H' d → But d H H' → Q x H'
def primes : List Int := [2, 3, 5, 7, 11, 13, 17, 19, 23, 29, 31, 37, 41, 43, 47, 53, 59, 61, 67, 71, 73, 79, 83, 89, 97]
def spPrimes : Sp := fun vs H Q _ => vs = [] ∧ ∀ (p : Addr) (H' : Hp), Same H H' → H p = none → H' p = some (.lst (primes.map V.int)) → Q (.ref p) H'
def spAnyPrime : Sp := fun vs H Q _ => ∃ (d : Addr), vs = [.ref d] ∧ Draw H d ∧ ∀ (p : Int) (H' : Hp), p ∈ primes → Draw H' d → But d H H' → Q (.int p) H'
theorem big {n : Nat} (h : n ≤ 1000) : n < 2 ^ 200 := Nat.lt_of_le_of_lt h (by decide)
section
variable {P : Program} {w : World} {K : PySem.W.Frag} {mg : Str → Option Value} {base : Heap}
abbrev s_law_begin : Stmt := topS 30
theorem sc_law_begin : FnScope (["_law_script"] : List Str) ["_law_script"] (defScope s_law_begin) := ⟨rfl, rfl, rfl, by decide +kernel, rfl, by decide +kernel, by decide +kernel⟩
theorem ok_begin {f : Addr} {fd : FuncData} (F : FunD K "_law_begin" "_law_begin" (defArgs s_law_begin) (defBody s_law_begin) (defScope s_law_begin) [] [] f fd) (T : Fre mg) : FnOk P w K mg base CX0 1 f fd ["_law_script"] (spBegin K) := by
  refine F.ok sc_law_begin (fun vs H Q E h => ?_) (fun cdv A outer s H vs Q E hr h => ?_)
  · obtain ⟨a, ns, rfl, _⟩ := h
    rfl
  · obtain ⟨a, ns, rfl, hS, k⟩ := h
    refine ⟨_, PSs.nox (pss_one (ps_ret (pe_lst (pa_cons (pe_callTy call_list_of (by rfl) T.f_list (by decide +kernel) (pa_cons (pe_slice sl_list (pv 0) po_none (po_some pe_int)) pa_nil)) (pa_cons pe_int (pa_cons pe_int (pa_cons pe_int pa_nil))))))) , ?_⟩
    refine ⟨_, rfl, 63, rfl, a, _, rfl, hS, fun p hp => ⟨p, _, rfl, .inl (SqL.of upd_same), fun l hl => ⟨(by show 4 ≤ sizeLine; decide), fun d hd => ?_⟩⟩⟩
    obtain ⟨ms, em⟩ := cutV_ints ns none (some 63)
    have h1 : H l = none := by rw [← upd_ne (H := H) (o := .lst (cutV (ns.map V.int) none (some 63))) (ne_of_none' hl upd_same)]; exact hl
    have s1 : Same H (L2.upd H p (.lst (cutV (ns.map V.int) none (some 63)))) := same_upd hp
    have s2 := s1.trans (same_upd (o := .lst (cutV (ns.map V.int) none (some 63))) hl)
    refine k d _ (s2.trans (same_upd hd)) (s2.free hd) ⟨l, ms, 0, 0, 37, upd_same, ?_, by decide, by decide⟩
    rw [upd_ne (ne_of_none upd_same hd), upd_same, em]
abbrev s_law_take : Stmt := topS 31
theorem sc_law_take : FnScope (["_law_draw", "_law_sides", "_law_cell", "_law_got"] : List Str) ["_law_draw", "_law_sides"] (defScope s_law_take) := ⟨rfl, rfl, rfl, by decide +kernel, rfl, by decide +kernel, by decide +kernel⟩
theorem ok_take {f : Addr} {fd : FuncData} (F : FunD K "_law_take" "_law_take" (defArgs s_law_take) (defBody s_law_take) (defScope s_law_take) [] [] f fd) (T : Fre mg) : FnOk P w K mg base CX0 1 f fd ["_law_draw", "_law_sides"] spTake := by
  refine F.ok sc_law_take (fun vs H Q E h => ?_) (fun cdv A outer s H vs Q E hr h => ?_)
  · obtain ⟨d, n, rfl, _⟩ := h
    rfl
  · obtain ⟨d, n, rfl, D, h1, h2, k⟩ := h
    obtain ⟨c, ns, i, r, g, e1, e2, g0, g1⟩ := id D
    have hcd : c ≠ d := D.apart e2
    refine ⟨_, PSs.nox (C8.pss_cut (ps_if (PW.pt (pw_and (pt_cmpR op_lt (pe_ix ix_list (pv 0) pe_int (fun _ _ => rfl)) (pv 1) (nomark _)) (pw_and1 (pt_cmpR op_lt (pe_ix ix_list (pv 0) pe_int (fun _ _ => rfl)) (pe_callB call_len_seq (by rfl) T.f_len PySem.boot_len (pa_cons (pe_ix ix_list (pv 0) pe_int (fun _ _ => rfl)) pa_nil)) (nomark _))))) (pss_cons (ps_set (i := 2) sc_law_take.nd rfl (Or.inl rfl) (pe_ix ix_list (pe_ix ix_list (pv 0) pe_int (fun _ _ => rfl)) (pe_ix ix_list (pv 0) pe_int (fun _ _ => rfl)) (fun _ _ => rfl)))
      (pss_cons (ps_asg (pe_op op_add (pe_ix ix_list (pv 0) pe_int (fun _ _ => rfl)) pe_int) (pg_sub (pv 0) pe_int set_list))
      (pss_cons (ps_asg pe_int (pg_sub (pv 0) pe_int set_list))
      (pss_one (ps_if (pt_cmpR op_ge (pe_callB call_abs (by rfl) T.f_abs (by decide +kernel) (pa_cons (pv 2) pa_nil)) (pe_op op_pow pe_int pe_int) (nomark _)) (pss_one (ps_asg (pe_callB call_abs (by rfl) T.f_abs (by decide +kernel) (pa_cons (pv 2) pa_nil)) (pg_sub (pv 0) pe_int set_list))) (pss_one (ps_asg (pe_op op_modN (pe_op op_add (pe_op op_add (pe_op op_mul (pe_ix ix_list (pv 0) pe_int (fun _ _ => rfl)) pe_int) (pe_op op_mul (pe_op op_modN (pv 2) pe_int) pe_int)) pe_int) pe_int) (pg_sub (pv 0) pe_int set_list)))))))) pss_nil)
      (pss_cons (ps_if (pt_cmpR op_ge (pe_ix ix_list (pv 0) pe_int (fun _ _ => rfl)) (pv 1) (nomark _)) (pss_cons (ps_set (i := 3) sc_law_take.nd rfl (Or.inl rfl) (pe_op op_modN (pe_ix ix_list (pv 0) pe_int (fun _ _ => rfl)) (pv 1)))
      (pss_cons (ps_asg (pe_op op_fdivW (pe_ix ix_list (pv 0) pe_int (fun _ _ => rfl)) (pv 1)) (pg_sub (pv 0) pe_int set_list))
      (pss_one (ps_ret (pv 3))))) pss_nil)
      (pss_cons (ps_asg (pe_op op_modN (pe_op op_add (pe_op op_add (pe_op op_mul (pe_op op_modN (pe_op op_mul (pe_ix ix_list (pv 0) pe_int (fun _ _ => rfl)) (pe_ix ix_list (pv 0) pe_int (fun _ _ => rfl))) pe_int) pe_int) (pe_op op_mul (pe_ix ix_list (pv 0) pe_int (fun _ _ => rfl)) pe_int)) pe_int) pe_int) (pg_sub (pv 0) pe_int set_list))
      (pss_one (ps_ret (pe_op op_modN (pe_op op_add (pe_op op_fdivW (pe_ix ix_list (pv 0) pe_int (fun _ _ => rfl)) pe_int) (pe_op op_mul (pe_op op_modN (pe_ix ix_list (pv 0) pe_int (fun _ _ => rfl)) pe_int) pe_int)) (pv 1))))))) , ?_⟩
    refine ⟨fun σ' H' => ∃ x, σ' = [some (.ref d), some (.int n), x, none] ∧ Draw H' d ∧ But d H H', ?_, ?_⟩
    · have same : ∃ x, L2.start ["_law_draw", "_law_sides", "_law_cell", "_law_got"] [V.ref d, V.int n] = [some (.ref d), some (.int n), x, none] ∧ Draw H d ∧ But d H H := ⟨none, rfl, D, But.refl d H⟩
      refine ⟨_, rfl, d, _, 2, _, rfl, rfl, SqL.of e1, rfl, _, rfl, _, _, rfl, rfl, _, rfl, ?_⟩
      refine ite2 (fun hc => ?_) (fun hc => ?_)
      · refine ⟨_, rfl, d, _, 1, _, rfl, rfl, SqL.of e1, rfl, _, rfl, d, _, 0, _, rfl, rfl, SqL.of e1, rfl, c, _, rfl, .inl (SqL.of e2), _, _, rfl, rfl, _, rfl, ?_⟩
        refine ite2 (fun hi => ?_) (fun hi => ?_)
        · have hi' : i < ns.length := by
            have z := of_decide_eq_true hi
            rw [List.length_map] at z
            omega
          have e1a : ∀ o : HO, L2.upd H d o d = some o := fun o => upd_same
          refine ⟨_, rfl, d, _, 0, _, rfl, rfl, SqL.of e1, rfl, _, rfl, d, _, 1, _, rfl, rfl, SqL.of e1, rfl, c, _, i, .int ns[i], rfl, rfl, SqL.of e2, atI_nat (by simp [hi']), ?_⟩
          refine ⟨_, rfl, d, _, 1, _, rfl, rfl, SqL.of e1, rfl, _, _, rfl, rfl, _, rfl, d, _, 1, 1, rfl, rfl, e1, rfl, ?_⟩
          refine ⟨_, rfl, d, _, 2, 2, rfl, rfl, upd_same, rfl, ?_⟩
          rw [upd_upd]
          refine ⟨_, rfl, _, rfl, _, _, rfl, rfl, ⟨by decide, by decide, by decide⟩, _, _, rfl, rfl, _, rfl, ?_⟩
          have fin : ∀ (r' g' : Int), 0 ≤ g' → g' < 2147483647 → ∃ x, [some (V.ref d), some (V.int n), some (V.int ns[i]), none] = [some (.ref d), some (.int n), x, none] ∧ Draw (L2.upd H d (.lst [.ref c, .int ((i : Int) + 1), .int r', .int g'])) d ∧ But d H (L2.upd H d (.lst [.ref c, .int ((i : Int) + 1), .int r', .int g'])) := fun r' g' a1 a2 =>
            ⟨_, rfl, ⟨c, ns, i + 1, r', g', upd_same, by rw [upd_ne hcd]; exact e2, a1, a2⟩, But.upd⟩
          refine ite2 (fun ha => ?_) (fun ha => ?_)
          · refine ⟨_, rfl, _, rfl, _, rfl, d, _, 2, 2, rfl, rfl, upd_same, rfl, ?_⟩
            rw [upd_upd]
            exact fin _ g g0 g1
          · refine ⟨_, rfl, d, _, 3, _, rfl, rfl, SqL.of upd_same, rfl, _, _, rfl, rfl, .inr ⟨by decide, by decide⟩, _, rfl, _, _, rfl, rfl, (fun z => absurd z (by decide)), _, _, rfl, rfl, .inr ⟨by decide, by decide⟩, _, _, rfl, rfl, _, _, rfl, rfl, _, _, rfl, rfl, (fun z => absurd z (by decide)), _, rfl, d, _, 3, 3, rfl, rfl, upd_same, rfl, ?_⟩
            rw [upd_upd]
            exact fin 0 _ (Int.fmod_nonneg_of_pos _ (by decide)) (Int.fmod_lt_of_pos _ (by decide))
        · exact same
      · exact same
    · rintro σ' H' ⟨x, rfl, ⟨c', ns', i', r', g', f1, f2, b0, b1⟩, hb⟩
      have D' : Draw H' d := ⟨c', ns', i', r', g', f1, f2, b0, b1⟩
      have hcd' : c' ≠ d := D'.apart f2
      have hwd : CDivW r' n := wide_div (b := 200) (by omega) h2 (by decide) (by decide)
      refine ⟨_, rfl, d, _, 2, _, rfl, rfl, SqL.of f1, rfl, _, rfl, _, _, rfl, rfl, _, rfl, ?_⟩
      refine ite2 (fun hc => ?_) (fun hc => ?_)
      · refine ⟨_, rfl, d, _, 2, _, rfl, rfl, SqL.of f1, rfl, _, rfl, _, _, rfl, rfl, (by show n ≠ 0; omega), ?_⟩
        refine ⟨_, rfl, d, _, 2, _, rfl, rfl, SqL.of f1, rfl, _, rfl, _, _, rfl, rfl, hwd, _, rfl, d, _, 2, 2, rfl, rfl, f1, rfl, _, rfl, ?_⟩
        refine k _ _ (Int.fmod_nonneg_of_pos _ (by omega)) (Int.fmod_lt_of_pos _ (by omega)) ⟨c', ns', i', _, g', upd_same, by rw [upd_ne hcd']; exact f2, b0, b1⟩ (hb.trans But.upd)
      · refine ⟨_, rfl, d, _, 3, _, rfl, rfl, SqL.of f1, rfl, _, rfl, d, _, 3, _, rfl, rfl, SqL.of f1, rfl, _, _, rfl, rfl, .inl ⟨by omega, by omega⟩, _, _, rfl, rfl, (fun z => absurd z (by decide)), _, _, rfl, rfl, .inr ⟨by decide, by decide⟩, _, rfl, d, _, 3, _, rfl, rfl, SqL.of f1, rfl, _, _, rfl, rfl, .inr ⟨by decide, by decide⟩, _, _, rfl, rfl, _, _, rfl, rfl, _, _, rfl, rfl, (fun z => absurd z (by decide)), _, rfl, d, _, 3, 3, rfl, rfl, f1, rfl, ?_⟩
        refine ⟨_, rfl, d, _, 3, _, rfl, rfl, SqL.of upd_same, rfl, _, _, rfl, rfl, wide_div (b := 6) (by decide) (by decide) (by decide) (by decide), _, rfl, d, _, 3, _, rfl, rfl, SqL.of upd_same, rfl, _, _, rfl, rfl, (fun z => absurd z (by decide)), _, _, rfl, rfl, .inr ⟨by decide, by decide⟩, _, _, rfl, rfl, _, rfl, _, _, rfl, rfl, (by show n ≠ 0; omega), ?_⟩
        refine k _ _ (Int.fmod_nonneg_of_pos _ (by omega)) (Int.fmod_lt_of_pos _ (by omega)) ⟨c', ns', i', _, _, upd_same, by rw [upd_ne hcd']; exact f2, Int.fmod_nonneg_of_pos _ (by decide), Int.fmod_lt_of_pos _ (by decide)⟩ (hb.trans But.upd)
abbrev s_law_of : Stmt := topS 32
theorem sc_law_of : FnScope (["_law_draw", "_law_row"] : List Str) ["_law_draw", "_law_row"] (defScope s_law_of) := ⟨rfl, rfl, rfl, by decide +kernel, rfl, by decide +kernel, by decide +kernel⟩
theorem ok_of {f : Addr} {fd : FuncData} (F : FunD K "_law_of" "_law_of" (defArgs s_law_of) (defBody s_law_of) (defScope s_law_of) [] [] f fd) (T : Fre mg) (o_law_take : Own P w K mg base CX0 1 "_law_take" ["_law_draw", "_law_sides"] [] spTake) : FnOk P w K mg base CX0 2 f fd ["_law_draw", "_law_row"] (spOf K) := by
  refine F.ok sc_law_of (fun vs H Q E h => ?_) (fun cdv A outer s H vs Q E hr h => ?_)
  · obtain ⟨d, a, xs, rfl, _⟩ := h
    rfl
  · obtain ⟨d, a, xs, rfl, D, hS, had, h1, h2, k⟩ := h
    refine ⟨_, PSs.nox (pss_one (ps_ret (pe_ix ix_list (pv 1) (pe_own o_law_take (hr.mono (by decide)) rfl pass0 (pa_cons (pv 0) (pa_cons (pe_callB call_len_seq (by rfl) T.f_len PySem.boot_len (pa_cons (pv 1) pa_nil)) pa_nil))) (fun _ _ => rfl)))) , ?_⟩
    refine ⟨_, rfl, _, rfl, _, rfl, a, _, rfl, .inl hS, d, _, rfl, D, (by show 1 ≤ ((xs.length : Nat) : Int); omega), (by show ((xs.length : Nat) : Int).natAbs < 2 ^ 200; exact big (by omega)), fun m H' m0 m1 D' B => ?_⟩
    obtain ⟨j, rfl⟩ := Int.eq_ofNat_of_zero_le m0
    have hj : j < xs.length := by omega
    refine ⟨a, xs, j, xs[j], rfl, rfl, B.seq had hS, atI_nat (by simp [hj]), k _ _ (List.getElem_mem hj) D' B⟩
abbrev s_law_primes : Stmt := topS 36
theorem sc_law_primes : FnScope ([] : List Str) [] (defScope s_law_primes) := ⟨rfl, rfl, rfl, by decide +kernel, rfl, by decide +kernel, by decide +kernel⟩
theorem ok_primes {f : Addr} {fd : FuncData} (F : FunD K "_law_primes" "_law_primes" (defArgs s_law_primes) (defBody s_law_primes) (defScope s_law_primes) [] [] f fd) : FnOk P w K mg base CX0 1 f fd [] spPrimes := by
  refine F.ok sc_law_primes (fun vs H Q E h => ?_) (fun cdv A outer s H vs Q E hr h => ?_)
  · obtain ⟨rfl, _⟩ := h
    rfl
  · obtain ⟨rfl, k⟩ := h
    refine ⟨_, PSs.nox (pss_one (ps_ret (pe_lst (pa_cons pe_int (pa_cons pe_int (pa_cons pe_int (pa_cons pe_int (pa_cons pe_int (pa_cons pe_int (pa_cons pe_int (pa_cons pe_int (pa_cons pe_int (pa_cons pe_int (pa_cons pe_int (pa_cons pe_int (pa_cons pe_int (pa_cons pe_int (pa_cons pe_int (pa_cons pe_int (pa_cons pe_int (pa_cons pe_int (pa_cons pe_int (pa_cons pe_int (pa_cons pe_int (pa_cons pe_int (pa_cons pe_int (pa_cons pe_int (pa_cons pe_int pa_nil)))))))))))))))))))))))))))) , ?_⟩
    exact ⟨(by show 25 ≤ sizeLine; decide), fun p hp => k p _ (same_upd hp) hp upd_same⟩
abbrev s_law_any_prime : Stmt := topS 37
theorem sc_law_any_prime : FnScope (["_law_draw"] : List Str) ["_law_draw"] (defScope s_law_any_prime) := ⟨rfl, rfl, rfl, by decide +kernel, rfl, by decide +kernel, by decide +kernel⟩
theorem ok_any_prime {f : Addr} {fd : FuncData} (F : FunD K "_law_any_prime" "_law_any_prime" (defArgs s_law_any_prime) (defBody s_law_any_prime) (defScope s_law_any_prime) [] [] f fd) (o_law_of : Own P w K mg base CX0 2 "_law_of" ["_law_draw", "_law_row"] [] (spOf K)) (o_law_primes : Own P w K mg base CX0 1 "_law_primes" [] [] spPrimes) : FnOk P w K mg base CX0 3 f fd ["_law_draw"] spAnyPrime := by
  refine F.ok sc_law_any_prime (fun vs H Q E h => ?_) (fun cdv A outer s H vs Q E hr h => ?_)
  · obtain ⟨d, rfl, _⟩ := h
    rfl
  · obtain ⟨d, rfl, D, k⟩ := h
    refine ⟨_, PSs.nox (pss_one (ps_ret (pe_own o_law_of (hr.mono (by decide)) rfl pass0 (pa_cons (pv 0) (pa_cons (pe_own o_law_of (hr.mono (by decide)) rfl pass0 (pa_cons (pv 0) (pa_cons (pe_lst (pa_cons (pe_lst (pa_cons pe_int pa_nil)) (pa_cons (pe_lst (pa_cons pe_int (pa_cons pe_int (pa_cons pe_int pa_nil)))) (pa_cons (pe_lst (pa_cons pe_int (pa_cons pe_int pa_nil))) (pa_cons (pe_own0 o_law_primes (hr.mono (by decide)) rfl pass0) pa_nil))))) pa_nil))) pa_nil))))) , ?_⟩
    refine ⟨_, rfl, _, rfl, (by show 1 ≤ sizeLine; decide), fun p1 n1 => ⟨(by show 3 ≤ sizeLine; decide), fun p2 n2 => ⟨(by show 2 ≤ sizeLine; decide), fun p3 n3 => ⟨rfl, fun p4 H4 s4 n4 e4 => ⟨(by show 4 ≤ sizeLine; decide), fun p5 n5 => ?_⟩⟩⟩⟩⟩
    have S1 := same_upd (o := .lst [.int 2]) n1
    have S2 := same_upd (o := .lst [.int 3, .int 5, .int 7]) n2
    have S3 := same_upd (o := .lst [.int 2, .int 97]) n3
    have S5 := same_upd (o := .lst [.ref p1, .ref p2, .ref p3, .ref p4]) n5
    have S := (((S1.trans S2).trans S3).trans s4).trans S5
    have D5 := D.same S
    have q1 : L2.upd H4 p5 (.lst [.ref p1, .ref p2, .ref p3, .ref p4]) p1 = some (.lst ([2].map V.int)) := S5 _ _ (s4 _ _ (S3 _ _ (S2 _ _ upd_same)))
    have q2 : L2.upd H4 p5 (.lst [.ref p1, .ref p2, .ref p3, .ref p4]) p2 = some (.lst ([3, 5, 7].map V.int)) := S5 _ _ (s4 _ _ (S3 _ _ upd_same))
    have q3 : L2.upd H4 p5 (.lst [.ref p1, .ref p2, .ref p3, .ref p4]) p3 = some (.lst ([2, 97].map V.int)) := S5 _ _ (s4 _ _ upd_same)
    have q4 : L2.upd H4 p5 (.lst [.ref p1, .ref p2, .ref p3, .ref p4]) p4 = some (.lst (primes.map V.int)) := S5 _ _ e4
    refine ⟨d, p5, _, rfl, D5, SqL.of upd_same, (D.same (((S1.trans S2).trans S3).trans s4)).ne n5, (by show 0 < 4; decide), (by show 4 ≤ 1000; decide), fun x H6 hx D6 B6 => ?_⟩
    have : ∃ (p : Addr) (ms : List Int), x = .ref p ∧ L2.upd H4 p5 (.lst [.ref p1, .ref p2, .ref p3, .ref p4]) p = some (.lst (ms.map V.int)) ∧ 0 < ms.length ∧ ms.length ≤ 1000 ∧ ∀ m ∈ ms, m ∈ primes := by
      rcases List.mem_cons.mp hx with rfl | hx
      · exact ⟨p1, _, rfl, q1, by decide, by decide, by decide⟩
      rcases List.mem_cons.mp hx with rfl | hx
      · exact ⟨p2, _, rfl, q2, by decide, by decide, by decide⟩
      rcases List.mem_cons.mp hx with rfl | hx
      · exact ⟨p3, _, rfl, q3, by decide, by decide, by decide⟩
      rcases List.mem_cons.mp hx with rfl | hx
      · exact ⟨p4, _, rfl, q4, by decide, by decide, fun m hm => hm⟩
      · cases hx
    obtain ⟨p, ms, rfl, hp, l0, l1, hm⟩ := this
    have hpd : p ≠ d := D5.apart hp
    refine ⟨d, p, _, rfl, D6, SqL.of (B6 _ _ hpd hp), hpd, by rw [List.length_map]; exact l0, by rw [List.length_map]; exact l1, fun y H7 hy D7 B7 => ?_⟩
    obtain ⟨m, hm1, rfl⟩ := List.mem_map.mp hy
    exact k m H7 (hm m hm1) D7 (((But.same S).trans B6).trans B7)
end
end Xk
end
section
set_option Elab.async false
set_option linter.all false
set_option maxRecDepth 100000
set_option maxHeartbeats 4000000
namespace Xk
open PySem PySem.Spec PyProof.Rows L2 Xh
/-! ### two things alike -/
theorem tyT {K : PySem.W.Frag} {H : Hp} {a : Addr} {xs : List V} (h : SqT K H a xs) : TyX K H (.ref a) (.type "tuple") := by
  rcases h with (h | ⟨o, h⟩) | ⟨o, its, n, h, c, _⟩
  · exact .base (.tup h)
  · exact .fTuple h
  · exact .kTuple h c
theorem tyL {K : PySem.W.Frag} {H : Hp} {a : Addr} {xs : List V} (h : SqL K H a xs) : TyX K H (.ref a) (.type "list") := by
  rcases h with (h | ⟨o, h⟩) | ⟨o, its, n, h, c, _⟩
  · exact .base (.lst h)
  · exact .base (.frz h)
  · exact .kList h c
theorem sameT {K : PySem.W.Frag} {H H' : Hp} {a : Addr} {xs : List V} (e : Same H H') (h : SqT K H a xs) : SqT K H' a xs := by
  rcases h with (h | ⟨o, h⟩) | h
  · exact .inl (.inl (e _ _ h))
  · exact .inl (.inr ⟨o, e _ _ h⟩)
  · exact .inr h
def tyF : V → String
  | .non => "NoneType"
  | .bl _ => "bool"
  | .int _ => "int"
  | _ => "str"
theorem flat_ty {K : PySem.W.Frag} {H : Hp} {x : V} (h : flatV x = true) : TyX K H x (.type (tyF x)) := by
  cases x with
  | non => exact .base .non
  | bl b => exact .base (.bl b)
  | int i => exact .base (.int i)
  | str s => exact .base (.str s)
  | _ => cases h
theorem flat_ty4 {x : V} (h : flatV x = true) : tyF x = "NoneType" ∨ tyF x = "bool" ∨ tyF x = "int" ∨ tyF x = "str" := by
  cases x with
  | non => exact .inl rfl
  | bl b => exact .inr (.inl rfl)
  | int i => exact .inr (.inr (.inl rfl))
  | str s => exact .inr (.inr (.inr rfl))
  | _ => cases h
theorem any_lt {K : PySem.W.Frag} : PySem.W.kitAny K (.type "list") [.type "list", .type "tuple"] = some true := kitAny_cons (b := true) (kit_ty (by decide +kernel)) (fun z => by cases z) (fun _ => rfl)
theorem any_tt {K : PySem.W.Frag} : PySem.W.kitAny K (.type "tuple") [.type "list", .type "tuple"] = some true := kitAny_cons (b := false) (kit_ty (by decide +kernel)) (fun _ => kitAny_cons (b := true) (kit_ty (by decide +kernel)) (fun z => by cases z) (fun _ => rfl)) (fun z => by cases z)
theorem any_f {K : PySem.W.Frag} {t : String} (h : t = "NoneType" ∨ t = "bool" ∨ t = "int" ∨ t = "str") : PySem.W.kitAny K (.type t) [.type "list", .type "tuple"] = some false := by
  have two : kitB t "list" = some false ∧ kitB t "tuple" = some false := by
    rcases h with rfl | rfl | rfl | rfl <;> exact ⟨by decide +kernel, by decide +kernel⟩
  exact kitAny_cons (b := false) (kit_ty two.1) (fun _ => kitAny_cons (b := false) (kit_ty two.2) (fun _ => kitAny_nil) (fun z => by cases z)) (fun z => by cases z)
theorem one_f {K : PySem.W.Frag} {t : String} (h : t = "NoneType" ∨ t = "bool" ∨ t = "int" ∨ t = "str") : (∃ b, PySem.W.kitOne K (.type t) (.type "bool") = some b) ∧ (∃ b, PySem.W.kitOne K (.type t) (.type "int") = some b) ∧ ∃ b, PySem.W.kitOne K (.type t) (.type "str") = some b := by
  rcases h with rfl | rfl | rfl | rfl
  · exact ⟨⟨_, kit_ty (r := false) (by decide +kernel)⟩, ⟨_, kit_ty (r := false) (by decide +kernel)⟩, ⟨_, kit_ty (r := false) (by decide +kernel)⟩⟩
  · exact ⟨⟨_, kit_ty (r := true) (by decide +kernel)⟩, ⟨_, kit_ty (r := true) (by decide +kernel)⟩, ⟨_, kit_ty (r := false) (by decide +kernel)⟩⟩
  · exact ⟨⟨_, kit_ty (r := false) (by decide +kernel)⟩, ⟨_, kit_ty (r := true) (by decide +kernel)⟩, ⟨_, kit_ty (r := false) (by decide +kernel)⟩⟩
  · exact ⟨⟨_, kit_ty (r := false) (by decide +kernel)⟩, ⟨_, kit_ty (r := false) (by decide +kernel)⟩, ⟨_, kit_ty (r := true) (by decide +kernel)⟩⟩
theorem walk_zipT {K : PySem.W.Frag} {a b : Addr} {xs ys : List V} (hn : xs.length = ys.length) : Walk (RZ.ItzT K a b) xs.length (fun H => SqT K H a xs ∧ SqT K H b ys) (YPair (fun i => xs[i]?) (fun i => ys[i]?)) :=
  ⟨fun i H hi h => ⟨xs, ys, xs[i], ys[i]'(by omega), h.1, h.2, by simp [hi], by simp [show i < ys.length by omega]⟩, fun H h => ⟨xs, ys, h.1, h.2, .inl (Nat.le_refl _)⟩,
    fun i H x H' hi h y => by
      obtain ⟨T, u, v, e1, e2, e3, q1, q2⟩ := y
      exact ⟨T, u, v, e1, e2, e3, q1 xs h.1, q2 ys h.2⟩⟩
/-- alike, to a depth -/
def SameAt (K : PySem.W.Frag) (H : Hp) : Nat → V → V → Prop
  | 0, v, u => flatV u = true ∧ v = u
  | n + 1, v, u => (flatV u = true ∧ v = u) ∨ ∃ (a b : Addr) (xs ys : List V), v = .ref a ∧ u = .ref b ∧ ((SqL K H a xs ∧ SqL K H b ys) ∨ (SqT K H a xs ∧ SqT K H b ys)) ∧ xs.length = ys.length ∧ xs.length ≤ 1000 ∧ ∀ (i : Nat) (x y : V), xs[i]? = some x → ys[i]? = some y → SameAt K H n x y
theorem SameAt.same {K : PySem.W.Frag} {H H' : Hp} (s : Same H H') : ∀ {n : Nat} {v u : V}, SameAt K H n v u → SameAt K H' n v u
  | 0, _, _, h => h
  | n + 1, _, _, .inl h => .inl h
  | n + 1, _, _, .inr ⟨a, b, xs, ys, e1, e2, h, l, l2, q⟩ => .inr ⟨a, b, xs, ys, e1, e2, h.imp (fun z => ⟨s.seq z.1, s.seq z.2⟩) (fun z => ⟨sameT s z.1, sameT s z.2⟩), l, l2, fun i x y hx hy => (q i x y hx hy).same s⟩
def spS (K : PySem.W.Frag) : Nat → Sp
  | 0 => fun _ _ _ _ => False
  | n + 1 => fun vs H Q _ => ∃ (v u : V), vs = [v, u] ∧ SameAt K H n v u ∧ ∀ H', Same H H' → Q (.bl true) H'
theorem spS_len {K : PySem.W.Frag} : ∀ (n : Nat) (vs : List V) (H : Hp) (Q : VK) (E : XK), spS K n vs H Q E → vs.length = (["_law_found", "_law_due"] : List Str).length
  | 0, _, _, _, _, h => h.elim
  | n + 1, _, _, _, _, ⟨v, u, e, _⟩ => by rw [e]; rfl
section
variable {P : Program} {w : World} {K : PySem.W.Frag} {mg : Str → Option Value} {base : Heap}
abbrev s_law_same : Stmt := topS 33
theorem sc_law_same : FnScope (["_law_found", "_law_due", "_law_one", "_law_other"] : List Str) ["_law_found", "_law_due"] (defScope s_law_same) := ⟨rfl, rfl, rfl, by decide +kernel, rfl, by decide +kernel, by decide +kernel⟩
theorem ok_same {f : Addr} {fd : FuncData} (F : FunD K "_law_same" "_law_same" (defArgs s_law_same) (defBody s_law_same) (defScope s_law_same) [] [] f fd) (T : Fre mg) (m : mg "_law_same" = some (.ref f)) : ∀ n : Nat, FnOk P w K mg base CX0 n f fd ["_law_found", "_law_due"] (spS K n) := by
  intro n
  induction n with
  | zero => exact ⟨fun _ _ _ _ h => h.elim, fun _ _ _ _ _ _ _ _ _ _ _ _ _ h => h.elim⟩
  | succ n ih =>
  have o_law_same : Own P w K mg base CX0 n "_law_same" ["_law_found", "_law_due"] [] (spS K n) := own_of F ih m fun _ _ _ _ _ _ us hl => match us, hl with | [_, _], _ => rfl
  refine F.ok sc_law_same (spS_len _) (fun cdv A outer s H vs Q E hr h => ?_)
  obtain ⟨v, u, rfl, hs, k⟩ := h
  refine ⟨_, PSs.nox (pss_cons (ps_if (pt_val (pe_callB call_isiT (by rfl) T.f_isinstance (by decide +kernel) (pa_cons (pv 1) (pa_cons (pe_tup (pa_cons (pe_bltn (v := .ty "list") rfl T.f_list boot_list rfl) (pa_cons (pe_bltn (v := .ty "tuple") rfl T.f_tuple boot_tuple rfl) pa_nil))) pa_nil)))) (pss_cons (ps_if (PW.pt (pw_or (pt_cmpR op_ne (pe_callB call_isi (by rfl) T.f_isinstance (by decide +kernel) (pa_cons (pv 0) (pa_cons (pe_bltn (v := .ty "list") rfl T.f_list boot_list rfl) pa_nil))) (pe_callB call_isi (by rfl) T.f_isinstance (by decide +kernel) (pa_cons (pv 1) (pa_cons (pe_bltn (v := .ty "list") rfl T.f_list boot_list rfl) pa_nil))) (nomark _)) (pw_or1 (pt_not (pt_val (pe_callB call_isiT (by rfl) T.f_isinstance (by decide +kernel) (pa_cons (pv 0) (pa_cons (pe_tup (pa_cons (pe_bltn (v := .ty "list") rfl T.f_list boot_list rfl) (pa_cons (pe_bltn (v := .ty "tuple") rfl T.f_tuple boot_tuple rfl) pa_nil))) pa_nil)))))))) (pss_one (ps_ret pe_bl)) pss_nil)
      (pss_one (ps_ret (pe_and (pe_cmpR op_eq (pe_callB call_len_seq (by rfl) T.f_len PySem.boot_len (pa_cons (pv 0) pa_nil)) (pe_callB call_len_seq (by rfl) T.f_len PySem.boot_len (pa_cons (pv 1) pa_nil)) (nomark _)) (pe_one (pe_callB (cr_all rfl) (by rfl) T.f_all (by decide +kernel) (pa_cons (pe_lc (own := [("_law_one", 2), ("_law_other", 3)]) (g := (gTup K 2 (gCons (gName 2) (gCons (gName 3) gNil)))) rfl sc_law_same.nd (RZ.pi_zipA (by rfl) T.f_zip (pa_cons (pv 0) (pa_cons (pv 1) pa_nil))) (blkOk_by (own := [("_law_one", 2), ("_law_other", 3)]) (N := ["_law_found", "_law_due", "_law_one", "_law_other"]) (sc := defScope s_law_same) (by decide +kernel)) (fun _ _ _ _ _ => pg_tup rfl (pgs_cons (pg_name (i := 2) sc_law_same.nd rfl (Or.inl rfl) (Or.inr rfl)) (pgs_cons (pg_name (i := 3) sc_law_same.nd rfl (Or.inl rfl) (Or.inr rfl)) pgs_nil))) (fun _ _ _ _ _ => pts_nil) (fun _ _ _ _ _ => (pe_own o_law_same hr rfl pass0 (pa_cons (pv 2) (pa_cons (pv 3) pa_nil))))) pa_nil))))))) pss_nil)
      (pss_cons (ps_if (pt_cmpR op_isN (pv 1) pe_non (nomark _)) (pss_one (ps_ret (pe_cmpR op_isN (pv 0) pe_non (nomark _)))) pss_nil)
      (pss_cons (ps_if (PW.pt (pw_or (pt_cmpR op_ne (pe_callB call_isi (by rfl) T.f_isinstance (by decide +kernel) (pa_cons (pv 0) (pa_cons (pe_bltn (v := .ty "bool") rfl T.f_bool boot_bool rfl) pa_nil))) (pe_callB call_isi (by rfl) T.f_isinstance (by decide +kernel) (pa_cons (pv 1) (pa_cons (pe_bltn (v := .ty "bool") rfl T.f_bool boot_bool rfl) pa_nil))) (nomark _)) (pw_or1 (pt_cmpR op_ne (pe_callB call_isi (by rfl) T.f_isinstance (by decide +kernel) (pa_cons (pv 0) (pa_cons (pe_bltn (v := .ty "int") rfl T.f_int boot_int rfl) pa_nil))) (pe_callB call_isi (by rfl) T.f_isinstance (by decide +kernel) (pa_cons (pv 1) (pa_cons (pe_bltn (v := .ty "int") rfl T.f_int boot_int rfl) pa_nil))) (nomark _))))) (pss_one (ps_ret pe_bl)) pss_nil)
      (pss_one (ps_ret (pe_and (pe_cmpR op_eq (pe_callB call_isi (by rfl) T.f_isinstance (by decide +kernel) (pa_cons (pv 0) (pa_cons (pe_bltn (v := .ty "str") rfl T.f_str boot_str rfl) pa_nil))) (pe_callB call_isi (by rfl) T.f_isinstance (by decide +kernel) (pa_cons (pv 1) (pa_cons (pe_bltn (v := .ty "str") rfl T.f_str boot_str rfl) pa_nil))) (nomark _)) (pe_one (pe_cmpR op_eq (pv 0) (pv 1) (nomark _))))))))) , ?_⟩
  have cs : (flatV u = true ∧ v = u) ∨ ∃ (a b : Addr) (xs ys : List V), v = .ref a ∧ u = .ref b ∧ ((SqL K H a xs ∧ SqL K H b ys) ∨ (SqT K H a xs ∧ SqT K H b ys)) ∧ xs.length = ys.length ∧ xs.length ≤ 1000 ∧ ∀ (H1 : Hp), Same H H1 → ∀ (i : Nat) (x y : V) (Q : VK) (E : XK), xs[i]? = some x → ys[i]? = some y → (∀ H2, Same H1 H2 → Q (.bl true) H2) → spS K n [x, y] H1 Q E := by
    cases n with
    | zero => exact .inl hs
    | succ m =>
      rcases hs with h | ⟨a, b, xs, ys, e1, e2, h, l, l2, q⟩
      · exact .inl h
      · exact .inr ⟨a, b, xs, ys, e1, e2, h, l, l2, fun H1 s1 i x y Q E hx hy k => ⟨x, y, rfl, (q i x y hx hy).same s1, k⟩⟩
  rcases cs with ⟨hf, rfl⟩ | ⟨a, b, xs, ys, rfl, rfl, hh, hl, hl2, hq⟩
  · have t4 := flat_ty4 hf
    obtain ⟨⟨b1, o1⟩, ⟨b2, o2⟩, ⟨b3, o3⟩⟩ := one_f (K := K) t4
    refine ⟨_, rfl, (by show 2 ≤ sizeLine; decide), fun p hp => ⟨v, p, [.ty "list", .ty "tuple"], _, [.type "list", .type "tuple"], false, rfl, upd_same, .cons (.ty _) (.cons (.ty _) .nil), flat_ty hf, any_f t4, _, rfl, iteF ?_⟩⟩
    refine ⟨_, rfl, rfl, _, rfl, ?_⟩
    refine ite2 (fun hc => ?_) (fun hc => ?_)
    · refine ⟨_, rfl, rfl, ?_⟩
      rw [hc]
      exact k _ (same_upd hp)
    · have ty : ∀ (H1 : Hp), TyX K H1 v (.type (tyF v)) := fun H1 => flat_ty hf
      have nb : (!decide (V.bl b1 = V.bl b1)) = false := by simp
      have nb2 : (!decide (V.bl b2 = V.bl b2)) = false := by simp
      have e3 : decide (V.bl b3 = V.bl b3) = true := by simp
      have ev : decide (v = v) = true := by simp
      have sc : scal v v = true := by
        cases v with
        | non => exact absurd (decide_eq_true rfl) hc
        | bl _ => rfl
        | int _ => rfl
        | str _ => rfl
        | _ => cases hf
      refine ⟨_, rfl, v, _, _, _, b1, rfl, .ty _, ty _, o1, _, rfl, v, _, _, _, b1, rfl, .ty _, ty _, o1, rfl, _, rfl, ?_⟩
      rw [nb]
      refine iteF ⟨_, rfl, v, _, _, _, b2, rfl, .ty _, ty _, o2, _, rfl, v, _, _, _, b2, rfl, .ty _, ty _, o2, rfl, _, rfl, ?_⟩
      rw [nb2]
      refine iteF ⟨_, rfl, v, _, _, _, b3, rfl, .ty _, ty _, o3, _, rfl, v, _, _, _, b3, rfl, .ty _, ty _, o3, rfl, _, rfl, ?_⟩
      rw [e3]
      refine iteT ⟨_, rfl, _, rfl, sc, ?_⟩
      rw [ev]
      exact k _ (same_upd hp)
  · have key : ∃ (t : String) (bl : Bool), PySem.W.kitOne K (.type t) (.type "list") = some bl ∧ PySem.W.kitAny K (.type t) [.type "list", .type "tuple"] = some true ∧ (∀ H1, Same H H1 → TyX K H1 (.ref a) (.type t) ∧ TyX K H1 (.ref b) (.type t)) := by
      rcases hh with ⟨ha, hb⟩ | ⟨ha, hb⟩
      · exact ⟨"list", true, kit_ty (by decide +kernel), any_lt, fun H1 s1 => ⟨tyL (s1.seq ha), tyL (s1.seq hb)⟩⟩
      · exact ⟨"tuple", false, kit_ty (by decide +kernel), any_tt, fun H1 s1 => ⟨tyT (sameT s1 ha), tyT (sameT s1 hb)⟩⟩
    obtain ⟨t, bl, o1, o2, ty⟩ := key
    have sq : ∀ H1, Same H H1 → (SqL K H1 a xs ∨ SqT K H1 a xs) ∧ (SqL K H1 b ys ∨ SqT K H1 b ys) := fun H1 s1 => by
      rcases hh with ⟨ha, hb⟩ | ⟨ha, hb⟩
      · exact ⟨.inl (s1.seq ha), .inl (s1.seq hb)⟩
      · exact ⟨.inr (sameT s1 ha), .inr (sameT s1 hb)⟩
    refine ⟨_, rfl, (by show 2 ≤ sizeLine; decide), fun p hp => ⟨.ref b, p, [.ty "list", .ty "tuple"], _, [.type "list", .type "tuple"], true, rfl, upd_same, .cons (.ty _) (.cons (.ty _) .nil), (ty _ (same_upd hp)).2, o2, _, rfl, iteT ?_⟩⟩
    have s1 : Same H (L2.upd H p (.tup [.ty "list", .ty "tuple"])) := same_upd hp
    refine ⟨_, rfl, .ref a, _, _, _, bl, rfl, .ty _, (ty _ s1).1, o1, _, rfl, .ref b, _, _, _, bl, rfl, .ty _, (ty _ s1).2, o1, rfl, _, rfl, ?_⟩
    rw [show (!decide (V.bl bl = V.bl bl)) = false from by simp]
    refine iteF ⟨_, rfl, (by show 2 ≤ sizeLine; decide), fun p2 hp2 => ⟨.ref a, p2, [.ty "list", .ty "tuple"], _, [.type "list", .type "tuple"], true, rfl, upd_same, .cons (.ty _) (.cons (.ty _) .nil), (ty _ (s1.trans (same_upd hp2))).1, o2, _, rfl, iteF ?_⟩⟩
    have s2 := s1.trans (same_upd (o := .tup [.ty "list", .ty "tuple"]) hp2)
    refine ⟨_, rfl, a, xs, rfl, (sq _ s2).1, _, rfl, b, ys, rfl, (sq _ s2).2, rfl, _, rfl, ?_⟩
    rw [hl, show decide (V.int (ys.length : Int) = V.int (ys.length : Int)) = true from decide_eq_true rfl]
    refine iteT ?_
    have core : ∀ (J : It) (G : Hp → Prop), Walk J xs.length G (YPair (fun i => xs[i]?) (fun i => ys[i]?)) → (∀ H1, Same H H1 → G H1) → ∀ D, (L2.upd (L2.upd H p (.tup [.ty "list", .ty "tuple"])) p2 (.tup [.ty "list", .ty "tuple"])) D = none → _ := fun J G w hG D hD =>
      lc_it w (vs := [2, 3]) (σ := [some (.ref a), some (.ref b), none, none]) (g := gTup K 2 (gCons (gName 2) (gCons (gName 3) gNil))) (tt := fun _ H Q => Q true H) (te := tCall (spS K n) [] E0 (tCons (tVar 2) (tCons (tVar 3) tNil))) (Qd := fun H1 => rAll K [.ref D] H1 Q)
        (fun i H1 => Same H H1 ∧ H D = none ∧ H1 D = some (.lst ((List.replicate i true).map V.bl)) ∧ i ≤ xs.length) ⟨s2.trans (same_upd hD), s2.free hD, upd_same, Nat.zero_le _⟩ (fun i H1 _ h => hG H1 h.1)
        (fun i v H1 H2 hi ⟨q1, q2, q3, q4⟩ ⟨Tp, x, y, e1, e2, e3, hx, hy⟩ => by
          subst e1 e3
          have q1' := q1.trans (same_upd (o := .tup [x, y]) e2)
          refine ⟨Tp, _, rfl, SqT.of upd_same, rfl, x, _, rfl, y, _, rfl, rfl, rfl, iteT ⟨_, rfl, _, rfl, hq _ q1' i x y _ _ hx hy fun H3 q5 => ?_⟩⟩
          have hD3 : H3 D = some (.lst ((List.replicate i true).map V.bl)) := q5 _ _ (by rw [upd_ne (ne_of_none q3 e2)]; exact q3)
          refine ⟨_, hD3, ?_, fun c o h => ?_, q2, ?_, hi⟩
          · rw [List.length_map, List.length_replicate]
            exact small1000 (by omega)
          · rw [upd_ne (ne_of_none h q2)]
            exact q5 _ _ (q1' _ _ h)
          · rw [upd_same, List.replicate_succ', List.map_append]
            rfl)
        (fun H1 ⟨q1, q2, q3, q4⟩ => ⟨D, List.replicate xs.length true, rfl, SqL.of q3, by rw [show (List.replicate xs.length true).all id = true from by simp]; exact k H1 q1⟩)
    rcases hh with ⟨ha, hb⟩ | ⟨ha, hb⟩
    · exact ⟨_, rfl, _, rfl, a, b, xs, ys, rfl, .inl ⟨s2.seq ha, s2.seq hb, core _ _ (walk_zip (by omega)) (fun H1 s => ⟨s.seq ha, s.seq hb⟩)⟩⟩
    · exact ⟨_, rfl, _, rfl, a, b, xs, ys, rfl, .inr ⟨sameT s2 ha, sameT s2 hb, core _ _ (walk_zipT hl) (fun H1 s => ⟨sameT s ha, sameT s hb⟩)⟩⟩
end
end Xk
end
section
set_option Elab.async false
set_option linter.all false
set_option maxRecDepth 100000
set_option maxHeartbeats 4000000
namespace Xk
open PySem PySem.Spec PyProof.Rows L2 Xh LamX
/-! ### what is told, what is refused -/
/-- e.f of the exception that the suite holds: any own class that lets its fields be read -/
def tXfA (K : PySem.W.Frag) (a : Addr) (cls : Value) (d : Option Addr) (f : Str) (te : TE) : TE := fun σ H Q => te σ H fun x H1 => x = .ref a ∧ ∃ (C dd : Addr) (fs : List (Str × V)) (v : V), cls = .ref C ∧ XfC K C ∧ PySem.W.findIn K (.ref C) f = some none ∧ d = some dd ∧ H1 dd = some (.xd fs) ∧ fs.lookup f = some v ∧ Q v H1
theorem pe_xfA {X : Cx} {a : Addr} {oe : Obj} {cls : Value} {d : Option Addr} {pn : List (Addr × Obj)} {e : Expr} {te : TE} {pos : Pos} {n : Str}
    (hz : Zc cls d oe) (hf : ∃ vs, oe.data = .fields vs) (he : PE (X.suite a ((a, oe) :: pn)) e te) (hb : attributeBase e n X.env (eval e X.env) = eval e X.env := by rfl) :
    PE (X.suite a ((a, oe) :: pn)) (.Attribute e n pos) (tXfA X.K a cls d n te) := by
  refine ⟨fun pins s σ H Q I h => ?_⟩
  refine attr_of hb (thn (he.run pins s σ H _ I h) fun u s1 hh => ?_)
  obtain ⟨x, H1, I1, rx, ex, C, dd, fs, v, ec, T, hno, ed, ea, l, q⟩ := hh
  subst ex
  obtain rfl : u = Value.ref a := rx
  subst ec
  subst ed
  obtain ⟨ha, _⟩ := I1.pin (a, oe) (List.mem_append_left _ List.mem_cons_self)
  obtain ⟨vs, hd⟩ := hf
  have hx : ObjOk X.prog X.w H1 s1.heap dd (.xd fs) := I1.hok dd _ ea
  obtain ⟨mA, hns, hr⟩ := hx
  obtain ⟨od, ho, hl⟩ := lookIn_ns hns
  obtain ⟨u, hu, ru⟩ := RelO.some_of (v := v) (o := mA n) (by rw [← l]; exact hr n)
  have J : PySem.W.InstAt s1.heap a oe C (some od) := ⟨ha, hz.1, by unfold PySem.W.notCls; rw [hd] <;> rfl, by rw [hz.2]; exact ho⟩
  exact HandSPX.exc_get I1.kIn J T.ga T.gg T.exC (PySem.W.findObj_own T.hdC hno rfl (by rw [hl, hu])) (handed_of ru) ⟨v, H1, I1.tok _, ru, q⟩
/-- the clauses' classes -/
structure Cls8 (mg : Str → Option Value) (c : Fin 14 → Addr) : Prop where
  c0 : mg "NotWhole" = some (.ref (c 0))
  c1 : mg "TooTall" = some (.ref (c 1))
  c2 : mg "BadTable" = some (.ref (c 2))
  c3 : mg "BadText" = some (.ref (c 3))
  c4 : mg "BadPage" = some (.ref (c 4))
  c5 : mg "Stopped" = some (.ref (c 5))
  c6 : mg "Used" = some (.ref (c 6))
  c7 : mg "Held" = some (.ref (c 7))
  c8 : mg "NoGuest" = some (.ref (c 8))
  c9 : mg "NoName" = some (.ref (c 9))
  c10 : mg "RungError" = some (.ref (c 10))
  c11 : mg "RungMissing" = some (.ref (c 11))
def hcs (c : Fin 14 → Addr) : List (List Value) := [[.ref (c 0)], [.ref (c 1)], [.ref (c 2), .ref (c 3)], [.ref (c 4)], [.ref (c 5)], [.ref (c 6), .ref (c 7)], [.ref (c 8), .ref (c 9)], [.ref (c 10), .ref (c 11)]]
/-- the class at C is taken by the j-th clause -/
def Catch (K : PySem.W.Frag) (c : Fin 14 → Addr) (C : Addr) (j : Nat) : Prop := XfC K C ∧ (∀ i < j, ∀ cs, (hcs c)[i]? = some cs → PySem.W.exmAny K (.ref C) cs = some false) ∧ ∀ cs, (hcs c)[j]? = some cs → PySem.W.exmAny K (.ref C) cs = some true
/-- what is wanted of an exception: one without more is told by its word -/
def wWhy (K : PySem.W.Frag) (c : Fin 14 → Addr) (Q : VK) : XK := fun cls d H' => ∃ (C dd : Addr) (fs : List (Str × V)) (nm : Str), cls = .ref C ∧ d = some dd ∧ H' dd = some (.xd fs) ∧ Catch K c C 7 ∧ PySem.W.findIn K (.ref C) "word" = some none ∧ fs.lookup ("word" : Str) = some (V.str nm) ∧ ∀ p, H' p = none → Q (.ref p) (L2.upd H' p (.tup [.str nm, .non]))
def TTwhy (K : PySem.W.Frag) (c : Fin 14 → Addr) : (XK → Hp → VK → Prop) → Hp → VK → Prop := fun tl H Q => tl (wWhy K c Q) H fun v H1 => [V.str "told", v].length ≤ sizeLine ∧ ∀ p, H1 p = none → Q (.ref p) (L2.upd H1 p (.tup [.str "told", v]))
theorem takes_len {X : Cx} {W : WX} (t : Takes X W) : Takes X fun cls d σ H => σ.length = X.N.length → W cls d σ H := fun u s' x => by
  obtain ⟨a, B, sI, pins, σ, H, cls, d, e, I, nb, up, sky, na, os, ag, w⟩ := x
  exact t u s' ⟨a, B, sI, pins, σ, H, cls, d, e, I, nb, up, sky, na, os, ag, w I.len⟩
theorem wskip {K : PySem.W.Frag} {Wout : WX} {D : Ends} {cs : List Value} {n : Option Nat} {ts : Addr → Value → Option Addr → TS} {r : List Cl} {cls : Value} {d : Option Addr} {σ : L2.St} {H : Hp} (h : PySem.W.exmAny K cls cs = some false) (k : wClauses K Wout D r cls d σ H) : wClauses K Wout D ((cs, n, ts) :: r) cls d σ H :=
  ⟨false, h, fun z => absurd z (by decide), fun _ => k⟩
theorem wtake {K : PySem.W.Frag} {Wout : WX} {D : Ends} {cs : List Value} {n : Option Nat} {ts : Addr → Value → Option Addr → TS} {r : List Cl} {cls : Value} {d : Option Addr} {σ : L2.St} {H : Hp} (h : PySem.W.exmAny K cls cs = some true) (k : ∀ a, H a = none → ts a cls d (outOf D n) (intoS σ a n) H) : wClauses K Wout D ((cs, n, ts) :: r) cls d σ H :=
  ⟨true, h, fun _ => k, fun z => absurd z (by decide)⟩
theorem set_at {σ : L2.St} {i : Nat} {x : Option V} (h : i < σ.length) : (σ.set i x)[i]? = some x := by
  rw [List.getElem?_set_self h]
section
variable {P : Program} {w : World} {K : PySem.W.Frag} {mg : Str → Option Value} {base : Heap}
abbrev s_law_why : Stmt := topS 34
theorem sc_law_why : FnScope (["_law_ask", "e"] : List Str) ["_law_ask"] (defScope s_law_why) := ⟨rfl, rfl, rfl, by decide +kernel, rfl, by decide +kernel, by decide +kernel⟩
theorem ok_why {g : Addr} {fd : FuncData} {kl : Nat} {c : Fin 14 → Addr} (F : FunD K "_law_why" "_law_why" (defArgs s_law_why) (defBody s_law_why) (defScope s_law_why) [] [] g fd) (m : mg "_law_why" = some (.ref g)) (M : Cls8 mg c) : Gives P w K mg base (kl + 2) kl "_law_why" g (TTwhy K c) := by
  refine gives_of (Ng := ["_law_ask", "e"]) (a := "_law_ask") F m sc_law_why (fun _ _ _ _ _ _ us hl => match us, hl with | [_], _ => rfl) fun q cdg A outer f c' s H Q tl hr act hfo hfs hc hT => ?_
  refine ⟨_, pss_one (ps_try_cls (Wout := fun _ _ _ _ => False)
      (tb := fun W D σ H => ∃ Ech : XK, (∀ cls d σ' H', Ech cls d H' → σ'.length = 2 → W cls d σ' H') ∧ σ[0]? = some (some (.ref f)) ∧ H c' = some (CodeO c' q) ∧ tl Ech H fun v H1 => [V.str "told", v].length ≤ sizeLine ∧ ∀ p, H1 p = none → D.rt (.ref p) (L2.upd H1 p (.tup [.str "told", v])))
      rfl rfl sc_law_why.nd L2.takes0 (fun W pn xe tk _ => ?body)
      (.as (testName ⟨rfl, by decide, .inl M.c0⟩) (i := 1) rfl rfl (fun a oe cls d pn hz hf => pss_one (ps_ret (pe_tup (pa_cons (pe_xfA hz hf (pv 1)) (pa_cons (pe_xfA hz hf (pv 1)) pa_nil)))))
      (.as (testName ⟨rfl, by decide, .inl M.c1⟩) (i := 1) rfl rfl (fun a oe cls d pn hz hf => pss_one (ps_ret (pe_tup (pa_cons (pe_xfA hz hf (pv 1)) (pa_cons (pe_xfA hz hf (pv 1)) pa_nil)))))
      (.as (testTup2 rfl M.c2 rfl M.c3) (i := 1) rfl rfl (fun a oe cls d pn hz hf => pss_one (ps_ret (pe_tup (pa_cons (pe_xfA hz hf (pv 1)) (pa_cons (pe_xfA hz hf (pv 1)) pa_nil)))))
      (.as (testName ⟨rfl, by decide, .inl M.c4⟩) (i := 1) rfl rfl (fun a oe cls d pn hz hf => pss_one (ps_ret (pe_tup (pa_cons (pe_xfA hz hf (pv 1)) (pa_cons (pe_xfA hz hf (pv 1)) pa_nil)))))
      (.as (testName ⟨rfl, by decide, .inl M.c5⟩) (i := 1) rfl rfl (fun a oe cls d pn hz hf => pss_one (ps_ret (pe_tup (pa_cons (pe_xfA hz hf (pv 1)) (pa_cons (pe_tup (pa_cons (pe_xfA hz hf (pv 1)) (pa_cons (pe_xfA hz hf (pv 1)) pa_nil))) pa_nil)))))
      (.as (testTup2 rfl M.c6 rfl M.c7) (i := 1) rfl rfl (fun a oe cls d pn hz hf => pss_one (ps_ret (pe_tup (pa_cons (pe_xfA hz hf (pv 1)) (pa_cons (pe_xfA hz hf (pv 1)) pa_nil)))))
      (.as (testTup2 rfl M.c8 rfl M.c9) (i := 1) rfl rfl (fun a oe cls d pn hz hf => pss_one (ps_ret (pe_tup (pa_cons (pe_xfA hz hf (pv 1)) (pa_cons (pe_xfA hz hf (pv 1)) pa_nil)))))
      (.as (testTup2 rfl M.c10 rfl M.c11) (i := 1) rfl rfl (fun a oe cls d pn hz hf => pss_one (ps_ret (pe_tup (pa_cons (pe_xfA hz hf (pv 1)) (pa_cons pe_non pa_nil)))))
      .nil))))))))), ?_⟩
  case body =>
    refine ⟨fun pins s' σ H' D I h' => ?_⟩
    obtain ⟨Ech, hW, h1, h2, h3⟩ := h'
    have hp := fun p1 p2 => act (frs outer) CX0 ["_law_ask", "e"] "_law_why" (defScope s_law_why) g cdg A outer s H E0 Un.refl hfo (fun _ hb => hb) hr 0 "_law_ask" _ pn xe Ech p1 p2 rfl (Or.inl rfl) (by decide) (by decide) (takes_len tk) hW
    exact (pss_one (ps_ret (pe_tup (pa_cons pe_str (pa_cons (hp _ _) pa_nil))))).run pins s' σ H' D I ⟨h1, h2, h3⟩
  · refine ⟨wWhy K c Q, fun cls d σ' H' h hlen => ?_, rfl, hc, hT⟩
    obtain ⟨C, dd, fs, nm, rfl, rfl, hx, ⟨T, hf, ht⟩, hw, hl, k⟩ := h
    refine wskip (hf 0 (by decide) _ rfl) (wskip (hf 1 (by decide) _ rfl) (wskip (hf 2 (by decide) _ rfl) (wskip (hf 3 (by decide) _ rfl) (wskip (hf 4 (by decide) _ rfl) (wskip (hf 5 (by decide) _ rfl) (wskip (hf 6 (by decide) _ rfl) (wtake (ht _ rfl) fun a ha => ?_)))))))
    exact ⟨.ref a, set_at (by omega), rfl, C, dd, fs, .str nm, rfl, T, hw, rfl, hx, hl, (by show 2 ≤ sizeLine; decide), fun p hp => k p hp⟩
/-- the word alone -/
def TTword (K : PySem.W.Frag) (c : Fin 14 → Addr) : (XK → Hp → VK → Prop) → Hp → VK → Prop := fun tl H Q => TTwhy K c tl H fun x H1 => rIxT K x (.int 0) H1 Q
abbrev s_law_word : Stmt := topS 35
theorem sc_law_word : FnScope (["_law_ask"] : List Str) ["_law_ask"] (defScope s_law_word) := ⟨rfl, rfl, rfl, by decide +kernel, rfl, by decide +kernel, by decide +kernel⟩
theorem ok_word {g gy : Addr} {fd : FuncData} {kl : Nat} {c : Fin 14 → Addr} (F : FunD K "_law_word" "_law_word" (defArgs s_law_word) (defBody s_law_word) (defScope s_law_word) [] [] g fd) (m : mg "_law_word" = some (.ref g)) (G : Gives P w K mg base (kl + 2) kl "_law_why" gy (TTwhy K c)) : Gives P w K mg base (kl + 3) kl "_law_word" g (TTword K c) := by
  refine gives_of (Ng := ["_law_ask"]) (a := "_law_ask") F m sc_law_word (fun _ _ _ _ _ _ us hl => match us, hl with | [_], _ => rfl) fun q cdg A outer f c' s H Q tl hr act hfo hfs hc hT => ?_
  exact ⟨_, pss_one (ps_ret (pe_ix ix_tup (pe_passOn (i := 0) G act hfo hfs hr rfl rfl (Or.inl rfl)) pe_int (fun _ _ => rfl))), rfl, hc, hT⟩
end
end Xk
end
section
set_option Elab.async false
set_option linter.all false
set_option maxRecDepth 100000
set_option maxHeartbeats 4000000
namespace Xk
open PySem PySem.Spec PyProof.Rows L2 Xh LamX NdefX
/-- N to the power e by P -/
def rpow (N : Nat) (e : Int) (P : Nat) : Nat := if N = 0 then (if e = 0 then 1 else 0) else N ^ (e.fmod ((P : Int) - 1)).toNat % P
def spRPow : Sp := fun vs H Q _ => ∃ (N P : Nat) (e : Int), vs = [.int N, .int e, .int P] ∧ 2 ≤ P ∧ P ≤ 1000 ∧ N < P ∧ Q (.int (rpow N e P)) H
theorem fmodN (a b : Nat) : (a : Int).fmod (b : Int) = ((a % b : Nat) : Int) := by
  rw [Int.fmod_eq_emod_of_nonneg _ (Int.natCast_nonneg b), Int.natCast_emod]
def slotN (i : Nat) (σ : L2.St) : Nat := match σ[i]? with
  | some (some (.int s)) => s.toNat
  | _ => 0
/-! ### powers by any multiplication -/
/-- c multiplies: Rel i x: x is the i-th power; what power_by promises by that -/
def TTpow : Addr → Sp → Sp := fun f c vs H Q E => ∃ (u o : V) (e : Nat) (Rel : Nat → V → Hp → Prop), vs = [.ref f, u, o, .int e] ∧ Rel 0 u H ∧ Rel 1 o H ∧ (∀ i x H1 H2, Same H1 H2 → Rel i x H1 → Rel i x H2) ∧
  (∀ i j x y H1, Same H H1 → Rel i x H1 → Rel j y H1 → ∀ Q', (∀ z H2, Same H1 H2 → Rel (i + j) z H2 → Q' z H2) → c [x, y] H1 Q' E) ∧ ∀ z H1, Same H H1 → Rel e z H1 → Q z H1
/-- the lambda in a row `return g(lambda .., ..)` -/
def lamP (s : Stmt) : Arguments × Expr × Scope := match s with
  | .Return (some (.Call _ (.Lambda p b c _ :: _) _ _)) _ => (p, b, c)
  | s => (defArgs s, .Name "x" ⟨0, 0, 0, 0⟩, defScope s)
/-- of rests -/
def spMulP : List (Option V) → Sp := fun ws vs H Q _ => ∃ a b M : Nat, ws = [some (.int M)] ∧ vs = [.int a, .int b] ∧ a < M ∧ b < M ∧ 2 ≤ M ∧ M ≤ 1000 ∧ Q (.int ((a * b % M : Nat) : Int)) H
def rpQ : Str := (envOfC "rest_power" ⟨.function, [], false, false, []⟩ 0 0 .none).qual ++ "<lambda>"
def spRPowT (T : List (Addr × Str)) : Sp := fun vs H Q _ => ∃ (N P : Nat) (e : Int), vs = [.int N, .int e, .int P] ∧ 2 ≤ P ∧ P ≤ 1000 ∧ N < P ∧ Tabs T H ∧ ∀ H', Gr T H H' → Q (.int (rpow N e P)) H'
section
variable {P : Program} {w : World} {K : PySem.W.Frag} {mg : Str → Option Value} {base : Heap}
abbrev s_power_by : Stmt := topS 17
theorem sc_power_by : FnScope (["times", "unit", "one", "exponent", "power", "square", "steps"] : List Str) ["times", "unit", "one", "exponent"] (defScope s_power_by) := ⟨rfl, rfl, rfl, by decide +kernel, rfl, by decide +kernel, by decide +kernel⟩
theorem ok_power_by {g : Addr} {fd : FuncData} {kl : Nat} (F : FunD K "power_by" "power_by" (defArgs s_power_by) (defBody s_power_by) (defScope s_power_by) [] [] g fd) (m : mg "power_by" = some (.ref g)) : GivesV P w K mg base (kl + 1) kl "power_by" g TTpow := by
  refine givesV_of (Ng := ["times", "unit", "one", "exponent", "power", "square", "steps"]) (ps := ["times", "unit", "one", "exponent"]) F m sc_power_by (fun _ _ _ _ _ _ us hl => match us, hl with | [_, _, _, _], _ => rfl) (fun f c vs H Q E h => ?_) fun cdg A outer f FF b lps fr ws spl s H vs Q hr Fn C hf h => ?_
  · obtain ⟨u, o, e, Rel, rfl, _⟩ := h
    rfl
  · obtain ⟨u, o, e, Rel, rfl, r0, r1, stay, step, k⟩ := h
    refine ⟨_, (pss_cons (ps_set (i := 4) sc_power_by.nd rfl (Or.inl rfl) (pv 1))
      (pss_cons (ps_set (i := 5) sc_power_by.nd rfl (Or.inl rfl) (pv 2))
      (pss_cons (ps_set (i := 6) sc_power_by.nd rfl (Or.inl rfl) (pv 3))
      (pss_cons (ps_while PassesOwn.never (pt_cmpR op_gt (pv 6) pe_int (nomark _)) (C8.pss_cut (ps_if (pt_cmpR op_eq (pe_op op_modN (pv 6) pe_int) pe_int (nomark _)) (pss_one (ps_set (i := 4) sc_power_by.nd rfl (Or.inl rfl) (pe_callP (i := 0) Fn C rfl hr (Nat.le_refl _) pass0 rfl (Or.inl rfl) (pa_cons (pv 4) (pa_cons (pv 5) pa_nil))))) pss_nil)
      (pss_cons (ps_aug (i := 6) sc_power_by.nd rfl (Or.inl rfl) pe_int iop_fdivW)
      (pss_one (ps_if (pt_cmpR op_gt (pv 6) pe_int (nomark _)) (pss_one (ps_set (i := 5) sc_power_by.nd rfl (Or.inl rfl) (pe_callP (i := 0) Fn C rfl hr (Nat.le_refl _) pass0 rfl (Or.inl rfl) (pa_cons (pv 5) (pa_cons (pv 5) pa_nil))))) pss_nil)))))
      (pss_one (ps_ret (pv 4))))))) , ?_⟩
    refine ⟨_, rfl, _, rfl, _, rfl, ?_⟩
    refine while_by (fun σ' H' => ∃ (i j n : Nat) (x y : V), σ' = [some (.ref f), some u, some o, some (.int e), some x, some y, some (.int n)] ∧ Same H H' ∧ Rel i x H' ∧ Rel j y H' ∧ i + j * n = e) (fun σ' _ => slotN 6 σ')
      ⟨0, 1, e, u, o, rfl, fun _ _ z => z, r0, r1, by omega⟩ ?_ (fun σ H Q Q' m ⟨v, h1, i, j, h2, h3, k, h4, q⟩ => ⟨v, h1, i, j, h2, h3, k, h4, m _ _ q⟩)
    rintro σ' H1 ⟨i, j, n, x, y, rfl, s1, ri, rj, inv⟩
    have en : (n : Int) / 2 = ((n / 2 : Nat) : Int) := by omega
    have e3 : (n : Int).fmod 2 = ((n % 2 : Nat) : Int) := fmodN n 2
    refine ⟨_, rfl, _, _, rfl, rfl, _, rfl, ite2 (fun hc => ?_) (fun hc => ?_)⟩
    · have n0 : 0 < n := by
        have z := of_decide_eq_true hc
        omega
      refine ⟨fun σ' H' => ∃ (i' : Nat) (x' : V), σ' = [some (.ref f), some u, some o, some (.int e), some x', some y, some (.int n)] ∧ Same H H' ∧ Rel i' x' H' ∧ Rel j y H' ∧ i' + j * (2 * (n / 2)) = e, ?_, ?_⟩
      · refine ⟨_, rfl, _, _, rfl, rfl, (fun z => absurd z (by decide)), rfl, _, rfl, ite2 (fun hb => ?_) (fun hb => ?_)⟩
        · have hb' : n % 2 = 1 := by
            have z := V.int.inj (of_decide_eq_true hb)
            rw [e3] at z
            omega
          refine ⟨rfl, s1 _ _ hf, _, rfl, _, rfl, step i j x y H1 s1 ri rj _ fun z H2 s2 rz => ⟨i + j, z, rfl, s1.trans s2, rz, stay j y _ _ s2 rj, ?_⟩⟩
          have h2 : n = 2 * (n / 2) + 1 := by omega
          rw [← inv]
          conv => rhs; rw [h2, Nat.mul_add]
          omega
        · have hb' : n % 2 ≠ 1 := fun z => hb (decide_eq_true (by show V.int ((n : Int).fmod 2) = V.int 1; rw [e3, z]; rfl))
          have h2 : n = 2 * (n / 2) := by omega
          exact ⟨i, x, rfl, s1, ri, rj, by rw [← h2]; exact inv⟩
      · rintro σ' H2 ⟨i', x', rfl, s2, ri', rj', inv'⟩
        refine ⟨_, rfl, _, _, rfl, rfl, wide_div (b := 2) (by decide) (by decide) (by decide) (by decide), ?_⟩
        have less : (n / 2) < n := by omega
        refine ⟨_, rfl, _, _, rfl, rfl, _, rfl, ite2 (fun hd => ?_) (fun hd => ?_)⟩
        · refine ⟨rfl, s2 _ _ hf, _, rfl, _, rfl, step j j y y H2 s2 rj' rj' _ fun z H3 s3 rz => ⟨⟨i', j + j, n / 2, x', z, by rw [← en]; rfl, s2.trans s3, stay i' x' _ _ s3 ri', rz, ?_⟩, ?_⟩⟩
          · rw [← inv', Nat.add_mul, ← Nat.mul_assoc, Nat.mul_comm j 2, Nat.two_mul, Nat.add_mul]
          · show ((n : Int) / 2).toNat < (n : Int).toNat
            omega
        · have z0 : n / 2 = 0 := by
            by_cases z : n / 2 = 0
            · exact z
            · exact absurd (decide_eq_true (show (0 : Int) < (n : Int) / 2 by omega)) hd
          refine ⟨⟨i', j, n / 2, x', y, by rw [← en]; rfl, s2, ri', rj', ?_⟩, ?_⟩
          · rw [← inv', z0]
          · show ((n : Int) / 2).toNat < (n : Int).toNat
            omega
    · have z0 : n = 0 := by
        by_cases z : n = 0
        · exact z
        · exact absurd (decide_eq_true (show (0 : Int) < (n : Int) by omega)) hc
      refine ⟨_, rfl, k x H1 s1 ?_⟩
      rw [z0, Nat.mul_zero, Nat.add_zero] at inv
      rw [← inv]
      exact ri
abbrev s_rest_power : Stmt := topS 26
theorem sc_rest_power : FnScope (["rest", "exponent", "prime", "steps"] : List Str) ["rest", "exponent", "prime"] (defScope s_rest_power) := ⟨rfl, rfl, rfl, by decide +kernel, rfl, by decide +kernel, by decide +kernel⟩
abbrev lam_rpL : Arguments × Expr × Scope := (lamP ((defBody s_rest_power).getD 2 (.Pass ⟨0, 0, 0, 0⟩)))
theorem nb_rp : ndefB (defScope s_rest_power) lam_rpL.2.2 ["prime"] = true := by decide +kernel
theorem ns_rp : NScope ["first", "second", "prime"] ["first", "second"] ["prime"] lam_rpL.2.2 := nscope_by (by decide +kernel)
theorem lam_rp {f : Addr} {F : NF} (hp : F.params = lam_rpL.1) (hs : F.scope = lam_rpL.2.2) : NOkL P w K mg base CX0 1 f F lam_rpL.2.1 ["first", "second"] ["prime"] spMulP := by
  obtain ⟨fn, fq, fp, fb, fs, fc, fo⟩ := F
  have hp : fp = _ := hp
  have hs : fs = _ := hs
  subst hp hs
  refine nokL_of (N := ["first", "second", "prime"]) ns_rp (fun pm ctv us hl => match us, hl with | [_, _], _ => rfl) (fun ws vs H Q E h => ?_) fun A outer s H vs ws Q E hr hw h => ?_
  · obtain ⟨a, b, M, _, rfl, _⟩ := h
    rfl
  · obtain ⟨a, b, M, rfl, rfl, ha, hb, h2, h3, k⟩ := h
    refine ⟨_, (pe_op op_modN (pe_op op_mul (pv 0) (pv 1)) (pv 2)), ?_⟩
    refine ⟨_, rfl, _, rfl, _, _, rfl, rfl, .inl ⟨by omega, by omega⟩, _, rfl, _, _, rfl, rfl, (fun z => by omega), ?_⟩
    show Q (.int (((a : Int) * (b : Int)).fmod (M : Int))) H
    rw [← Int.natCast_mul, fmodN]
    exact k
theorem ok_rest_power {T : List (Addr × Str)} {f cR PR g : Addr} {fd : FuncData} (F : FunD K "rest_power" "rest_power" (defArgs s_rest_power) (defBody s_rest_power) (defScope s_rest_power) [] [] f fd) (hcd : fd.code = .ref cR) (TB : TabB base mg cR PR) (hmT : (PR, rpQ) ∈ T) (hu : ∀ p ∈ T, p.1 = PR → p.2 = rpQ)
    (G_power_by : GivesV P w K mg base 2 1 "power_by" g TTpow) : FnOk P w K mg base CX0 3 f fd ["rest", "exponent", "prime"] (spRPowT T) := by
  refine FunD_okC F hcd sc_rest_power (fun vs H Q E h => ?_) (fun A outer s H vs Q E hr h => ?_)
  · obtain ⟨N, p, e, rfl, _⟩ := h
    rfl
  · obtain ⟨N, M, e, rfl, h2, hM, hN, hT, k⟩ := h
    refine ⟨_, PSs.nox (pss_cons (ps_if (pt_cmpR op_eq (pv 0) pe_int (nomark _)) (pss_one (ps_ret (pe_ifExp (pt_cmpR op_eq (pv 1) pe_int (nomark _)) pe_int pe_int))) pss_nil)
      (pss_cons (ps_set (i := 3) sc_rest_power.nd rfl (Or.inl rfl) (pe_op op_modN (pv 1) (pe_op op_sub (pv 2) pe_int)))
      (pss_one (ps_ret (pe_giveV (mk := lamF _ lam_rpL.1 lam_rpL.2.2) (js := [2]) G_power_by (fun f c' => lam_rp rfl rfl) (fun _ => rfl) (fun ok => Caps.made ok (ndef_free nb_rp) (ndef_fr nb_rp) rfl) (hr.mono (by decide)) rfl (pa_cons (pe_lamV TB rfl hmT hu rfl (ndef_free nb_rp)) (pa_cons pe_int (pa_cons (pv 0) (pa_cons (pv 3) pa_nil))))))))) , ?_⟩
    refine ⟨_, rfl, rfl, _, rfl, ite2 (fun hc => ?_) (fun hc => ?_)⟩
    · have hN0 : N = 0 := by
        have z := V.int.inj (of_decide_eq_true hc)
        omega
      have k := k H (Gr.refl hT)
      refine ⟨_, rfl, rfl, _, rfl, ?_⟩
      by_cases he : e = 0
      · rw [decide_eq_true (by rw [he])]
        refine iteT ?_
        unfold rpow at k
        rw [if_pos hN0, if_pos he] at k
        exact k
      · rw [decide_eq_false (fun z => he (V.int.inj z))]
        refine iteF ?_
        unfold rpow at k
        rw [if_pos hN0, if_neg he] at k
        exact k
    · have hN0 : N ≠ 0 := fun z => hc (decide_eq_true (by rw [z]; rfl))
      refine ⟨_, rfl, _, rfl, _, _, rfl, rfl, _, _, rfl, rfl, (fun z => by omega), ?_⟩
      obtain ⟨s0, hs0⟩ := Int.eq_ofNat_of_zero_le (Int.fmod_nonneg_of_pos e (show (0 : Int) < (M : Int) - 1 by omega))
      have rk : rpow N e M = N ^ s0 % M := by
        unfold rpow
        rw [if_neg hN0, hs0, Int.toNat_natCast]
      refine ⟨hT, fun fl c' H1 g1 nf e1 e2 _ => ⟨_, rfl, _, rfl, fl, c', e1, ?_⟩⟩
      refine ⟨.int 1, .int N, s0, fun i v _ => v = .int ((N ^ i % M : Nat) : Int), (by show [V.ref fl, V.int 1, V.int N, V.int (e.fmod ((M : Int) - 1))] = _; rw [hs0]), ?_, ?_, fun _ _ _ _ _ z => z, fun i j x y H2 s2 ri rj Q' q => ⟨s2 _ _ e1, s2 _ _ e2, N ^ i % M, N ^ j % M, M, rfl, by rw [ri, rj], Nat.mod_lt _ (by omega), Nat.mod_lt _ (by omega), h2, hM, q _ _ (fun _ _ z => z) ?_⟩, fun z H2 s2 rz => ?_⟩
      · show V.int 1 = V.int ((N ^ 0 % M : Nat) : Int)
        rw [Nat.pow_zero, Nat.mod_eq_of_lt (show 1 < M by omega)]
        rfl
      · show V.int N = V.int ((N ^ 1 % M : Nat) : Int)
        rw [Nat.pow_one, Nat.mod_eq_of_lt hN]
      · show V.int ((N ^ i % M * (N ^ j % M) % M : Nat) : Int) = V.int ((N ^ (i + j) % M : Nat) : Int)
        rw [← Nat.mul_mod, ← Nat.pow_add]
      · have rz : z = V.int ((N ^ s0 % M : Nat) : Int) := rz
        rw [rz, ← rk]
        exact k _ (g1.same s2)
end
end Xk
end
section
set_option Elab.async false
set_option linter.all false
set_option maxRecDepth 100000
set_option maxHeartbeats 4000000
namespace Xk
open PySem PySem.Spec PyProof.Rows L2 Xh LamX
/-! ### rests -/
/-- what is wanted of a refusal: an own exception of the class at C, its word alone -/
def Ex (H : Hp) (E : XK) (C : Addr) (nm : Str) : Prop := ∀ (d : Addr) (H' : Hp), Same H H' → H' d = some (.xd [("word", .str nm)]) → H d = none → E (.ref C) (some d) H'
theorem Ex.imp {H : Hp} {E E' : XK} {C : Addr} {nm : Str} (x : Ex H E C nm) (h : ∀ c d H', E c d H' → E' c d H') : Ex H E' C nm := fun d H' a b c => h _ _ _ (x d H' a b c)
def spIsPrime : Sp := fun vs H Q _ => ∃ p : Int, vs = [.int p] ∧ Q (.bl (decide (p ∈ primes))) H
def spIsNum : Sp := fun vs H Q _ => ∃ n : Int, vs = [.int n] ∧ Q (.bl true) H
def spIsRest : Sp := fun vs H Q _ => ∃ n p : Int, vs = [.int n, .int p] ∧ Q (.bl (decide (0 ≤ n ∧ n < p))) H
def spRefP (C : Addr) : Sp := fun vs H Q E => ∃ p : Int, vs = [.int p] ∧ (p ∈ primes → Q .non H) ∧ (p ∉ primes → Ex H E C "BadPrime")
def spRefR (C : Addr) : Sp := fun vs H Q E => ∃ n p : Int, vs = [.int n, .int p] ∧ ((0 ≤ n ∧ n < p) → Q .non H) ∧ (¬ (0 ≤ n ∧ n < p) → Ex H E C "BadRest")
def spPow (T : List (Addr × Str)) (C : Fin 14 → Addr) : Sp := fun vs H Q E => ∃ n e p : Int, vs = [.int n, .int e, .int p] ∧ Tabs T H ∧ (p ∉ primes → Ex H E (C 0) "BadPrime") ∧ (p ∈ primes → ¬ (0 ≤ n ∧ n < p) → Ex H E (C 1) "BadRest") ∧ (p ∈ primes → n = 0 → e < 0 → Ex H E (C 2) "NoInverse") ∧
  (p ∈ primes → (0 ≤ n ∧ n < p) → ¬ (n = 0 ∧ e < 0) → ∀ H', Gr T H H' → Q (.int (rpow n.toNat e p.toNat)) H')
def spUndone (T : List (Addr × Str)) (C : Fin 14 → Addr) : Sp := fun vs H Q E => ∃ n p : Int, vs = [.int n, .int p] ∧ spPow T C [.int n, .int (-1), .int p] H Q E
theorem pow_step (M pw sq s : Nat) : ((if s % 2 = 1 then pw * sq % M else pw) * (sq * sq % M) ^ (s / 2)) % M = (pw * sq ^ s) % M := by
  have e : sq ^ s = (sq * sq) ^ (s / 2) * sq ^ (s % 2) := by
    have h : s = 2 * (s / 2) + s % 2 := (Nat.div_add_mod s 2).symm
    conv => lhs; rw [h, Nat.pow_add, Nat.pow_mul, Nat.pow_two]
  rw [e]
  by_cases h : s % 2 = 1
  · rw [if_pos h, h, Nat.pow_one, Nat.mul_mod (pw * sq % M), Nat.mod_mod, ← Nat.pow_mod, ← Nat.mul_mod]
    congr 1
    rw [Nat.mul_comm ((sq * sq) ^ (s / 2)) sq, Nat.mul_assoc]
  · have h0 : s % 2 = 0 := by omega
    rw [if_neg h, h0, Nat.pow_zero, Nat.mul_one, Nat.mul_mod, ← Nat.pow_mod, ← Nat.mul_mod]
theorem inV_ints (p : Int) : ∀ ns : List Int, inV (.int p) (ns.map V.int) = decide (p ∈ ns)
  | [] => rfl
  | n :: ns => by
    have ih := inV_ints p ns
    unfold inV at ih ⊢
    rw [List.map_cons, List.any_cons, ih]
    show ((n == p) || decide (p ∈ ns)) = decide (p ∈ n :: ns)
    by_cases h : n = p
    · subst h
      simp
    · have h' : p ≠ n := fun z => h z.symm
      simp [h, h']
theorem all_flat (ns : List Int) : (ns.map V.int).all flatV = true := by
  rw [List.all_eq_true]
  intro x hx
  obtain ⟨n, _, rfl⟩ := List.mem_map.mp hx
  rfl
section
variable {P : Program} {w : World} {K : PySem.W.Frag} {mg : Str → Option Value} {base : Heap}
abbrev s_is_prime : Stmt := topS 21
theorem sc_is_prime : FnScope (["number"] : List Str) ["number"] (defScope s_is_prime) := ⟨rfl, rfl, rfl, by decide +kernel, rfl, by decide +kernel, by decide +kernel⟩
theorem ok_is_prime {f : Addr} {fd : FuncData} {cP : Addr} (F : FunD K "is_prime" "is_prime" (defArgs s_is_prime) (defBody s_is_prime) (defScope s_is_prime) [] [] f fd) (mP : mg "PRIMES" = some (.ref cP)) (hP : ∀ H, SqT K H cP (primes.map V.int)) : FnOk P w K mg base CX0 1 f fd ["number"] spIsPrime := by
  refine F.ok sc_is_prime (fun vs H Q E h => ?_) (fun cdv A outer s H vs Q E hr h => ?_)
  · obtain ⟨p, rfl, _⟩ := h
    rfl
  · obtain ⟨p, rfl, k⟩ := h
    refine ⟨_, PSs.nox (pss_one (ps_ret (pe_cmpR op_in_seq (pv 0) (pe_glob (v := .ref cP) rfl mP rfl) (by rfl)))) , ?_⟩
    refine ⟨_, rfl, cP, _, rfl, .inr (hP H), rfl, all_flat _, ?_⟩
    rw [if_neg (by decide), inV_ints]
    exact k
abbrev s_is_number : Stmt := topS 22
theorem sc_is_number : FnScope (["told"] : List Str) ["told"] (defScope s_is_number) := ⟨rfl, rfl, rfl, by decide +kernel, rfl, by decide +kernel, by decide +kernel⟩
theorem ok_is_number {f : Addr} {fd : FuncData} (F : FunD K "is_number" "is_number" (defArgs s_is_number) (defBody s_is_number) (defScope s_is_number) [] [] f fd) (T : Fre mg) : FnOk P w K mg base CX0 1 f fd ["told"] spIsNum := by
  refine F.ok sc_is_number (fun vs H Q E h => ?_) (fun cdv A outer s H vs Q E hr h => ?_)
  · obtain ⟨p, rfl, _⟩ := h
    rfl
  · obtain ⟨n, rfl, k⟩ := h
    refine ⟨_, PSs.nox (pss_one (ps_ret (pe_and (pe_callB call_isi (by rfl) T.f_isinstance (by decide +kernel) (pa_cons (pv 0) (pa_cons (pe_bltn (v := .ty "int") rfl T.f_int boot_int rfl) pa_nil))) (pe_one (pe_not (pe_callB call_isi (by rfl) T.f_isinstance (by decide +kernel) (pa_cons (pv 0) (pa_cons (pe_bltn (v := .ty "bool") rfl T.f_bool boot_bool rfl) pa_nil)))))))) , ?_⟩
    exact ⟨_, rfl, .int n, _, _, _, true, rfl, .ty _, .base (.int n), kit_ty (by decide +kernel), _, rfl, iteT ⟨_, rfl, .int n, _, _, _, false, rfl, .ty _, .base (.int n), kit_ty (by decide +kernel), _, rfl, k⟩⟩
abbrev s_is_rest : Stmt := topS 23
theorem sc_is_rest : FnScope (["told", "prime"] : List Str) ["told", "prime"] (defScope s_is_rest) := ⟨rfl, rfl, rfl, by decide +kernel, rfl, by decide +kernel, by decide +kernel⟩
theorem ok_is_rest {f : Addr} {fd : FuncData} (F : FunD K "is_rest" "is_rest" (defArgs s_is_rest) (defBody s_is_rest) (defScope s_is_rest) [] [] f fd) (o_is_number : Own P w K mg base CX0 1 "is_number" ["told"] [] spIsNum) : FnOk P w K mg base CX0 2 f fd ["told", "prime"] spIsRest := by
  refine F.ok sc_is_rest (fun vs H Q E h => ?_) (fun cdv A outer s H vs Q E hr h => ?_)
  · obtain ⟨n, p, rfl, _⟩ := h
    rfl
  · obtain ⟨n, p, rfl, k⟩ := h
    refine ⟨_, PSs.nox (pss_one (ps_ret (pe_and (pe_own o_is_number (hr.mono (by decide)) rfl pass0 (pa_cons (pv 0) pa_nil)) (pe_one (pe_chain op_le op_lt pe_int (pv 0) (pv 1)))))) , ?_⟩
    refine ⟨_, rfl, n, rfl, _, rfl, iteT ⟨_, rfl, _, _, rfl, rfl, _, rfl, ?_⟩⟩
    by_cases h0 : 0 ≤ n
    · rw [decide_eq_true h0]
      refine iteT ⟨_, rfl, _, _, rfl, rfl, ?_⟩
      show Q (.bl (decide (n < p))) H
      rw [show decide (n < p) = decide (0 ≤ n ∧ n < p) from by simp [h0]]
      exact k
    · rw [decide_eq_false h0]
      refine iteF ?_
      rw [show decide (0 ≤ n ∧ n < p) = false from decide_eq_false fun z => h0 z.1] at k
      exact k
abbrev s_refuse_prime : Stmt := topS 24
theorem sc_refuse_prime : FnScope (["prime"] : List Str) ["prime"] (defScope s_refuse_prime) := ⟨rfl, rfl, rfl, by decide +kernel, rfl, by decide +kernel, by decide +kernel⟩
theorem ok_refuse_prime {f C fI : Addr} {fd : FuncData} (F : FunD K "refuse_prime" "refuse_prime" (defArgs s_refuse_prime) (defBody s_refuse_prime) (defScope s_refuse_prime) [] [] f fd) (o_is_prime : Own P w K mg base CX0 1 "is_prime" ["number"] [] spIsPrime) (xP : RX K mg C fI "BadPrime") (o_init : FnR P w K mg base (L2.CX P w) 1 fI (spRI1 K)) : FnOk P w K mg base (L2.CX P w) 3 f fd ["prime"] (spRefP C) := by
  refine F.ok sc_refuse_prime (fun vs H Q E h => ?_) (fun cdv A outer s H vs Q E hr h => ?_)
  · obtain ⟨p, rfl, _⟩ := h
    rfl
  · obtain ⟨p, rfl, h1, h2⟩ := h
    refine ⟨_, (pss_one (ps_if (pt_not (pt_val (pe_own o_is_prime (hr.mono (by decide)) rfl pass0 (pa_cons (pv 0) pa_nil)))) (pss_one (ps_raise rfl (takes_of rfl rfl rfl rfl) (pmk_rung xP o_init hr rfl))) pss_nil)) , ?_⟩
    refine ⟨_, rfl, p, rfl, _, rfl, ?_⟩
    by_cases hp : p ∈ primes
    · rw [decide_eq_true hp]
      exact iteF (h1 hp)
    · rw [decide_eq_false hp]
      exact iteT fun d H' a b c => h2 hp d H' a b c
abbrev s_refuse_rest : Stmt := topS 25
theorem sc_refuse_rest : FnScope (["number", "prime"] : List Str) ["number", "prime"] (defScope s_refuse_rest) := ⟨rfl, rfl, rfl, by decide +kernel, rfl, by decide +kernel, by decide +kernel⟩
theorem ok_refuse_rest {f C fI : Addr} {fd : FuncData} (F : FunD K "refuse_rest" "refuse_rest" (defArgs s_refuse_rest) (defBody s_refuse_rest) (defScope s_refuse_rest) [] [] f fd) (o_is_rest : Own P w K mg base CX0 2 "is_rest" ["told", "prime"] [] spIsRest) (xP : RX K mg C fI "BadRest") (o_init : FnR P w K mg base (L2.CX P w) 1 fI (spRI1 K)) : FnOk P w K mg base (L2.CX P w) 3 f fd ["number", "prime"] (spRefR C) := by
  refine F.ok sc_refuse_rest (fun vs H Q E h => ?_) (fun cdv A outer s H vs Q E hr h => ?_)
  · obtain ⟨n, p, rfl, _⟩ := h
    rfl
  · obtain ⟨n, p, rfl, h1, h2⟩ := h
    refine ⟨_, (pss_one (ps_if (pt_not (pt_val (pe_own o_is_rest (hr.mono (by decide)) rfl pass0 (pa_cons (pv 0) (pa_cons (pv 1) pa_nil))))) (pss_one (ps_raise rfl (takes_of rfl rfl rfl rfl) (pmk_rung xP o_init hr rfl))) pss_nil)) , ?_⟩
    refine ⟨_, rfl, _, rfl, n, p, rfl, _, rfl, ?_⟩
    by_cases hp : 0 ≤ n ∧ n < p
    · rw [decide_eq_true hp]
      exact iteF (h1 hp)
    · rw [decide_eq_false hp]
      exact iteT fun d H' a b c => h2 hp d H' a b c
abbrev s_powered : Stmt := topS 28
theorem sc_powered : FnScope (["number", "exponent", "prime"] : List Str) ["number", "exponent", "prime"] (defScope s_powered) := ⟨rfl, rfl, rfl, by decide +kernel, rfl, by decide +kernel, by decide +kernel⟩
theorem ok_powered {T : List (Addr × Str)} {f fI : Addr} {C : Fin 14 → Addr} {fd : FuncData} {kws : List (Str × V)} (F : FunD K "powered" "powered" (defArgs s_powered) (defBody s_powered) (defScope s_powered) [] kws f fd) (o_refuse_prime : Own P w K mg base (L2.CX P w) 3 "refuse_prime" ["prime"] [] (spRefP (C 0))) (o_refuse_rest : Own P w K mg base (L2.CX P w) 3 "refuse_rest" ["number", "prime"] [] (spRefR (C 1)))
    (o_rest_power : Own P w K mg base CX0 3 "rest_power" ["rest", "exponent", "prime"] [] (spRPowT T)) (xP : RX K mg (C 2) fI "NoInverse") (o_init : FnR P w K mg base (L2.CX P w) 1 fI (spRI1 K)) : FnOk P w K mg base (L2.CX P w) 4 f fd ["number", "exponent", "prime"] (spPow T C) := by
  refine F.ok sc_powered (fun vs H Q E h => ?_) (fun cdv A outer s H vs Q E hr h => ?_)
  · obtain ⟨n, e, p, rfl, _⟩ := h
    rfl
  · obtain ⟨n, e, p, rfl, hT, h1, h2, h3, h4⟩ := h
    refine ⟨_, (pss_cons (ps_expr (pe_own o_refuse_prime (hr.mono (by decide)) rfl (passes_call (takes_of rfl rfl rfl rfl) (fun _ _ _ _ h => h)) (pa_cons (pv 2) pa_nil)))
      (pss_cons (ps_expr (pe_own o_refuse_rest (hr.mono (by decide)) rfl (passes_call (takes_of rfl rfl rfl rfl) (fun _ _ _ _ h => h)) (pa_cons (pv 0) (pa_cons (pv 2) pa_nil))))
      (pss_cons (ps_if (PW.pt (pw_and (pt_cmpR op_eq (pv 0) pe_int (nomark _)) (pw_and1 (pt_cmpR op_lt (pv 1) pe_int (nomark _))))) (pss_one (ps_raise rfl (takes_of rfl rfl rfl rfl) (pmk_rung xP o_init (hr.mono (by decide)) rfl))) pss_nil)
      (pss_one (ps_ret (pe_own o_rest_power (hr.mono (by decide)) rfl pass0 (pa_cons (pv 0) (pa_cons (pv 1) (pa_cons (pv 2) pa_nil))))))))) , ?_⟩
    refine ⟨_, rfl, p, rfl, fun hp => ?_, h1⟩
    refine ⟨_, rfl, _, rfl, n, p, rfl, fun hn => ?_, h2 hp⟩
    refine ⟨_, rfl, rfl, _, rfl, ?_⟩
    have last : ¬ (n = 0 ∧ e < 0) → spRPowT T [.int n, .int e, .int p] H Q E := fun hne => by
      have hb : ∀ q ∈ primes, 2 ≤ q ∧ q ≤ 97 := by decide
      obtain ⟨p2, p97⟩ := hb p hp
      refine ⟨n.toNat, p.toNat, e, ?_, by omega, by omega, by omega, hT, h4 hp hn hne⟩
      rw [Int.toNat_of_nonneg hn.1, Int.toNat_of_nonneg (by omega)]
    by_cases hz : n = 0
    · subst hz
      refine iteT ⟨_, rfl, _, _, rfl, rfl, _, rfl, ?_⟩
      by_cases he : e < 0
      · rw [decide_eq_true he]
        exact iteT fun d H' a b c => h3 hp rfl he d H' a b c
      · rw [decide_eq_false he]
        exact iteF ⟨_, rfl, _, rfl, _, rfl, last fun z => he z.2⟩
    · rw [decide_eq_false (fun z => hz (V.int.inj z))]
      exact iteF ⟨_, rfl, _, rfl, _, rfl, last fun z => hz z.1⟩
abbrev s_undone : Stmt := topS 27
theorem sc_undone : FnScope (["number", "prime"] : List Str) ["number", "prime"] (defScope s_undone) := ⟨rfl, rfl, rfl, by decide +kernel, rfl, by decide +kernel, by decide +kernel⟩
theorem ok_undone {T : List (Addr × Str)} {f : Addr} {C : Fin 14 → Addr} {fd : FuncData} {kws : List (Str × V)} (F : FunD K "undone" "undone" (defArgs s_undone) (defBody s_undone) (defScope s_undone) [] kws f fd) (k_powered : OwnK P w K mg base (L2.CX P w) 4 2 "powered" ["number", "exponent", "prime"] ["prime"] (spPow T C)) : FnOk P w K mg base (L2.CX P w) 5 f fd ["number", "prime"] (spUndone T C) := by
  refine F.ok sc_undone (fun vs H Q E h => ?_) (fun cdv A outer s H vs Q E hr h => ?_)
  · obtain ⟨n, p, rfl, _⟩ := h
    rfl
  · obtain ⟨n, p, rfl, h⟩ := h
    refine ⟨_, (pss_one (ps_ret (pe_ownK k_powered (hr.mono (by decide)) rfl (passes_call (takes_of rfl rfl rfl rfl) (fun _ _ _ _ h => h)) (pa_cons (pv 0) (pa_cons (pe_un un_neg pe_int) pa_nil)) (pk_cons (pv 1) pk_nil)))) , ?_⟩
    exact ⟨_, rfl, _, rfl, _, rfl, rfl, rfl, h⟩
end
end Xk
end
section
set_option Elab.async false
set_option linter.all false
set_option maxRecDepth 100000
set_option maxHeartbeats 4000000
namespace Xk
open PySem PySem.Spec PyProof.Rows L2 Xh LamX
/-! ### what the law of rests has of its own -/
def spBad : Sp := fun vs H Q _ => ∃ d : Addr, vs = [.ref d] ∧ Draw H d ∧ ∀ (m : Int) (H' : Hp), m ∉ primes → Draw H' d → But d H H' → Q (.int m) H'
def spFar : Sp := fun vs H Q _ => ∃ (d : Addr) (p : Int), vs = [.ref d, .int p] ∧ Draw H d ∧ p ∈ primes ∧ ∀ (m : Int) (H' : Hp), ¬ (0 ≤ m ∧ m < p) → Draw H' d → But d H H' → Q (.int m) H'
/-- the rests that undo N by P -/
def bks (N P i : Nat) : List Nat := (List.range i).filter fun j => (j + 1) * N % P == 1
def bk (N P : Nat) : Nat := (bks N P (P - 1)).headD 0 + 1
def spBack : Sp := fun vs H Q _ => ∃ N P : Nat, vs = [.int N, .int P] ∧ 2 ≤ P ∧ P ≤ 1000 ∧ bks N P (P - 1) ≠ [] ∧ ∀ H', Same H H' → Q (.int (bk N P)) H'
theorem odd_primes : ∀ m ∈ primes, m = 2 ∨ m % 2 = 1 := by decide
theorem prime_bounds : ∀ q ∈ primes, 2 ≤ q ∧ q ≤ 97 := by decide
section
variable {P : Program} {w : World} {K : PySem.W.Frag} {mg : Str → Option Value} {base : Heap}
abbrev s_law_bad_prime : Stmt := topS 38
theorem sc_law_bad_prime : FnScope (["_law_draw"] : List Str) ["_law_draw"] (defScope s_law_bad_prime) := ⟨rfl, rfl, rfl, by decide +kernel, rfl, by decide +kernel, by decide +kernel⟩
theorem ok_bad {f : Addr} {fd : FuncData} (F : FunD K "_law_bad_prime" "_law_bad_prime" (defArgs s_law_bad_prime) (defBody s_law_bad_prime) (defScope s_law_bad_prime) [] [] f fd) (o_law_take : Own P w K mg base CX0 1 "_law_take" ["_law_draw", "_law_sides"] [] spTake) (o_law_of : Own P w K mg base CX0 2 "_law_of" ["_law_draw", "_law_row"] [] (spOf K)) : FnOk P w K mg base CX0 3 f fd ["_law_draw"] spBad := by
  refine F.ok sc_law_bad_prime (fun vs H Q E h => ?_) (fun cdv A outer s H vs Q E hr h => ?_)
  · obtain ⟨d, rfl, _⟩ := h
    rfl
  · obtain ⟨d, rfl, D, k⟩ := h
    refine ⟨_, PSs.nox (pss_one (ps_ret (pe_own o_law_of (hr.mono (by decide)) rfl pass0 (pa_cons (pv 0) (pa_cons (pe_lst (pa_cons pe_int (pa_cons pe_int (pa_cons pe_int (pa_cons pe_int (pa_cons pe_int (pa_cons pe_int (pa_cons (pe_un un_neg pe_int) (pa_cons (pe_un un_neg pe_int) (pa_cons (pe_op op_pow pe_int pe_int) (pa_cons (pe_op op_add pe_int (pe_op op_mul pe_int (pe_own o_law_take (hr.mono (by decide)) rfl pass0 (pa_cons (pv 0) (pa_cons (pe_op op_pow pe_int pe_int) pa_nil))))) pa_nil))))))))))) pa_nil))))) , ?_⟩
    refine ⟨_, rfl, _, rfl, _, rfl, _, _, rfl, rfl, ⟨by decide, by decide, by decide⟩, _, rfl, _, _, rfl, rfl, ⟨by decide, by decide, by decide⟩, d, _, rfl, D, by decide, by decide, fun m H1 m0 m1 D1 B1 => ?_⟩
    refine ⟨_, _, rfl, rfl, .inl ⟨by decide, by decide⟩, _, _, rfl, rfl, (by show 10 ≤ sizeLine; decide), fun p hp => ?_⟩
    refine ⟨d, p, _, rfl, D1.same (same_upd hp), SqL.of upd_same, D1.ne hp, (by show 0 < 10; decide), (by show 10 ≤ 1000; decide), fun x H2 hx D2 B2 => ?_⟩
    have hk : ∀ n : Int, n ∉ primes → Q (.int n) H2 := fun n hn => k n H2 hn D2 ((B1.trans (But.same (same_upd hp))).trans B2)
    have he : (4 + 2 * m : Int) ∉ primes := fun z => by
      rcases odd_primes _ z with h | h <;> omega
    simp only [List.mem_cons, List.not_mem_nil, or_false] at hx
    rcases hx with rfl | rfl | rfl | rfl | rfl | rfl | rfl | rfl | rfl | rfl
    all_goals first
      | exact hk _ (by decide)
      | exact hk _ he
abbrev s_law_far : Stmt := topS 39
theorem sc_law_far : FnScope (["_law_draw", "_law_p"] : List Str) ["_law_draw", "_law_p"] (defScope s_law_far) := ⟨rfl, rfl, rfl, by decide +kernel, rfl, by decide +kernel, by decide +kernel⟩
theorem ok_far {f : Addr} {fd : FuncData} (F : FunD K "_law_far" "_law_far" (defArgs s_law_far) (defBody s_law_far) (defScope s_law_far) [] [] f fd) (o_law_take : Own P w K mg base CX0 1 "_law_take" ["_law_draw", "_law_sides"] [] spTake) (o_law_of : Own P w K mg base CX0 2 "_law_of" ["_law_draw", "_law_row"] [] (spOf K)) : FnOk P w K mg base CX0 3 f fd ["_law_draw", "_law_p"] spFar := by
  refine F.ok sc_law_far (fun vs H Q E h => ?_) (fun cdv A outer s H vs Q E hr h => ?_)
  · obtain ⟨d, p, rfl, _⟩ := h
    rfl
  · obtain ⟨d, q, rfl, D, hq, k⟩ := h
    obtain ⟨q2, q97⟩ := prime_bounds q hq
    refine ⟨_, PSs.nox (pss_one (ps_ret (pe_own o_law_of (hr.mono (by decide)) rfl pass0 (pa_cons (pv 0) (pa_cons (pe_lst (pa_cons (pv 1) (pa_cons (pe_un un_neg pe_int) (pa_cons (pe_op op_pow pe_int pe_int) (pa_cons (pe_op op_add (pv 1) (pe_own o_law_take (hr.mono (by decide)) rfl pass0 (pa_cons (pv 0) (pa_cons (pe_op op_pow pe_int pe_int) pa_nil)))) (pa_cons (pe_un un_neg (pv 1)) pa_nil)))))) pa_nil))))) , ?_⟩
    refine ⟨_, rfl, _, rfl, _, rfl, _, _, rfl, rfl, ⟨by decide, by decide, by decide⟩, _, rfl, _, rfl, _, _, rfl, rfl, ⟨by decide, by decide, by decide⟩, d, _, rfl, D, by decide, by decide, fun m H1 m0 m1 D1 B1 => ?_⟩
    refine ⟨_, _, rfl, rfl, _, rfl, _, rfl, (by show 5 ≤ sizeLine; decide), fun p hp => ?_⟩
    refine ⟨d, p, _, rfl, D1.same (same_upd hp), SqL.of upd_same, D1.ne hp, (by show 0 < 5; decide), (by show 5 ≤ 1000; decide), fun x H2 hx D2 B2 => ?_⟩
    have hk : ∀ n : Int, ¬ (0 ≤ n ∧ n < q) → Q (.int n) H2 := fun n hn => k n H2 hn D2 ((B1.trans (But.same (same_upd hp))).trans B2)
    simp only [List.mem_cons, List.not_mem_nil, or_false] at hx
    have big : (97 : Int) < (10 : Int) ^ Int.toNat 20 := by decide
    rcases hx with rfl | rfl | rfl | rfl | rfl
    · exact hk _ (by omega)
    · exact hk _ (by omega)
    · exact hk _ (by omega)
    · exact hk _ (by show ¬ (0 ≤ q + m ∧ q + m < q); omega)
    · exact hk _ (by omega)
abbrev s_law_back : Stmt := topS 40
theorem sc_law_back : FnScope (["_law_number", "_law_p", "_law_k"] : List Str) ["_law_number", "_law_p"] (defScope s_law_back) := ⟨rfl, rfl, rfl, by decide +kernel, rfl, by decide +kernel, by decide +kernel⟩
theorem ok_back {f : Addr} {fd : FuncData} (F : FunD K "_law_back" "_law_back" (defArgs s_law_back) (defBody s_law_back) (defScope s_law_back) [] [] f fd) (T : Fre mg) : FnOk P w K mg base CX0 1 f fd ["_law_number", "_law_p"] spBack := by
  refine F.ok sc_law_back (fun vs H Q E h => ?_) (fun cdv A outer s H vs Q E hr h => ?_)
  · obtain ⟨N, M, rfl, _⟩ := h
    rfl
  · obtain ⟨N, M, rfl, h2, hM, hne, k⟩ := h
    refine ⟨_, PSs.nox (pss_one (ps_ret (pe_ix ix_list (pe_lc (own := [("_law_k", 2)]) rfl sc_law_back.nd (pi_range2 (by rfl) T.f_range (pa_cons pe_int (pa_cons (pv 1) pa_nil))) (blkOk_by (own := [("_law_k", 2)]) (N := ["_law_number", "_law_p", "_law_k"]) (sc := defScope s_law_back) (by decide +kernel)) (fun _ _ _ _ _ => pg_name (i := 2) sc_law_back.nd rfl (Or.inl rfl) (Or.inr rfl)) (fun _ _ _ _ _ => (pts_one (pt_cmpR op_eq (pe_op op_modN (pe_op op_mul (pv 2) (pv 0)) (pv 1)) pe_int (nomark _)))) (fun _ _ _ _ _ => (pv 2))) pe_int (fun _ _ => rfl)))) , ?_⟩
    refine ⟨_, rfl, 1, M, rfl, ⟨by decide, by decide, by omega, by omega⟩, fun D hD => ?_⟩
    have en : ((M : Int) - 1).toNat = M - 1 := by omega
    rw [en]
    refine lc_range (lo := 1) (n := M - 1) (fun i H1 => Same H H1 ∧ H D = none ∧ H1 D = some (.lst ((bks N M i).map fun j => V.int ((j + 1 : Nat) : Int)))) ⟨same_upd hD, hD, upd_same⟩ ?_ ?_
    · rintro i H1 hi ⟨s1, n1, e1⟩
      have ev : (((1 : Int) + (i : Int)) * (N : Int)).fmod (M : Int) = (((i + 1) * N % M : Nat) : Int) := by
        rw [show ((1 : Int) + (i : Int)) = ((i + 1 : Nat) : Int) from by omega, ← Int.natCast_mul, fmodN]
      have ei : (1 : Int) + (i : Int) = ((i + 1 : Nat) : Int) := by omega
      have len : (bks N M i).length ≤ i := by
        have z := List.length_filter_le (fun j => (j + 1) * N % M == 1) (List.range i)
        rw [List.length_range] at z
        exact z
      have nx : bks N M (i + 1) = bks N M i ++ (if (i + 1) * N % M = 1 then [i] else []) := by
        unfold bks
        rw [List.range_succ, List.filter_append]
        congr 1
        by_cases hc : (i + 1) * N % M = 1
        · rw [if_pos hc]
          simp [hc]
        · rw [if_neg hc]
          simp [hc]
      refine ⟨rfl, _, rfl, _, rfl, _, _, rfl, rfl, .inl ⟨by omega, by omega⟩, _, rfl, _, _, rfl, rfl, (fun z => by omega), rfl, _, rfl, ?_⟩
      by_cases hc : (i + 1) * N % M = 1
      · rw [show decide ((fun i j => V.int (Int.fmod i j)) ((1 + (i : Int)) * (N : Int)) (M : Int) = V.int 1) = true from decide_eq_true (by show V.int _ = V.int 1; rw [ev, hc]; rfl)]
        refine iteT ⟨_, rfl, _, e1, ?_, fun b o h => ?_, n1, ?_⟩
        · rw [List.length_map]
          exact small1000 (by omega)
        · rw [upd_ne (ne_of_none h n1)]
          exact s1 b o h
        · rw [upd_same, nx, if_pos hc, List.map_append, ei]
          rfl
      · rw [show decide ((fun i j => V.int (Int.fmod i j)) ((1 + (i : Int)) * (N : Int)) (M : Int) = V.int 1) = false from decide_eq_false (fun z => hc (by have z' := V.int.inj z; rw [ev] at z'; omega))]
        refine iteF ⟨s1, n1, ?_⟩
        rw [nx, if_neg hc, List.append_nil]
        exact e1
    · rintro H1 ⟨s1, n1, e1⟩
      refine ⟨D, _, 0, .int (bk N M), rfl, rfl, SqL.of e1, ?_, k H1 s1⟩
      unfold bk
      cases e : bks N M (M - 1) with
      | nil => exact absurd e hne
      | cons j js => exact atI_nat (j := 0) rfl
abbrev s_law_raised : Stmt := topS 41
theorem sc_law_raised : FnScope (["_law_number", "_law_exponent", "_law_p", "_law_found", "_law_k"] : List Str) ["_law_number", "_law_exponent", "_law_p"] (defScope s_law_raised) := ⟨rfl, rfl, rfl, by decide +kernel, rfl, by decide +kernel, by decide +kernel⟩
theorem ok_raised {f : Addr} {fd : FuncData} (F : FunD K "_law_raised" "_law_raised" (defArgs s_law_raised) (defBody s_law_raised) (defScope s_law_raised) [] [] f fd) (T : Fre mg) : FnOk P w K mg base CX0 1 f fd ["_law_number", "_law_exponent", "_law_p"] spRPow := by
  refine F.ok sc_law_raised (fun vs H Q E h => ?_) (fun cdv A outer s H vs Q E hr h => ?_)
  · obtain ⟨N, p, e, rfl, _⟩ := h
    rfl
  · obtain ⟨N, M, e, rfl, h2, hM, hN, k⟩ := h
    refine ⟨_, PSs.nox (pss_cons (ps_if (pt_cmpR op_eq (pv 0) pe_int (nomark _)) (pss_one (ps_ret (pe_callTy call_int1 (by rfl) T.f_int (by decide +kernel) (pa_cons (pe_cmpR op_eq (pv 1) pe_int (nomark _)) pa_nil)))) pss_nil)
      (pss_cons (ps_set (i := 3) sc_law_raised.nd rfl (Or.inl rfl) pe_int)
      (pss_cons (ps_for PassesOwn.never rfl (pi_range1 (by rfl) T.f_range (pa_cons (pe_op op_modN (pv 1) (pe_op op_sub (pv 2) pe_int)) pa_nil)) (pg_name (i := 4) sc_law_raised.nd rfl (Or.inl rfl)) (pss_one (ps_set (i := 3) sc_law_raised.nd rfl (Or.inl rfl) (pe_op op_modN (pe_op op_mul (pv 3) (pv 0)) (pv 2)))))
      (pss_one (ps_ret (pv 3)))))) , ?_⟩
    refine ⟨_, rfl, rfl, _, rfl, ite2 (fun hc => ?_) (fun hc => ?_)⟩
    · have hN0 : N = 0 := by
        have z := V.int.inj (of_decide_eq_true hc)
        omega
      refine ⟨_, rfl, rfl, .inr ⟨_, rfl, ?_⟩⟩
      unfold rpow at k
      rw [if_pos hN0] at k
      by_cases he : e = 0
      · rw [if_pos he] at k
        rw [decide_eq_true (by rw [he])]
        exact k
      · rw [if_neg he] at k
        rw [decide_eq_false (fun z => he (V.int.inj z))]
        exact k
    · have hN0 : N ≠ 0 := fun z => hc (decide_eq_true (by rw [z]; rfl))
      obtain ⟨s0, hs0⟩ := Int.eq_ofNat_of_zero_le (Int.fmod_nonneg_of_pos e (show (0 : Int) < (M : Int) - 1 by omega))
      have hlt := Int.fmod_lt_of_pos e (show (0 : Int) < (M : Int) - 1 by omega)
      have rk : rpow N e M = N ^ s0 % M := by
        unfold rpow
        rw [if_neg hN0, hs0, Int.toNat_natCast]
      rw [rk] at k
      refine ⟨_, rfl, _, rfl, _, _, rfl, rfl, _, _, rfl, rfl, (fun z => by omega), e.fmod ((M : Int) - 1), rfl, by omega, by omega, ?_⟩
      rw [hs0, Int.toNat_natCast]
      refine for_range (lo := 0) (n := s0) (fun i σ' H' => ∃ x, σ' = [some (.int N), some (.int e), some (.int M), some (.int ((N ^ i % M : Nat) : Int)), x] ∧ H' = H) ⟨none, ?_, rfl⟩ ?_ ?_
      · rw [Nat.pow_zero, Nat.mod_eq_of_lt (show 1 < M by omega)]
        rfl
      · rintro i σ' H' hi ⟨x, rfl, rfl⟩
        have e1 : (((N ^ i % M : Nat) : Int) * (N : Int)).fmod (M : Int) = ((N ^ (i + 1) % M : Nat) : Int) := by
          rw [← Int.natCast_mul, fmodN, Nat.pow_succ, Nat.mod_mul_mod]
        have lt : N ^ i % M < M := Nat.mod_lt _ (by omega)
        refine ⟨_, rfl, _, rfl, _, _, rfl, rfl, .inl ⟨by omega, by omega⟩, _, rfl, _, _, rfl, rfl, (fun z => by omega), some (.int (0 + (i : Int))), ?_, rfl⟩
        rw [← e1]
        rfl
      · rintro σ' H' ⟨x, rfl, rfl⟩
        exact ⟨_, rfl, k⟩
end
/-! ### numbers -/
theorem undo_facts : ∀ M ∈ primes, ∀ N < M.toNat, N ≠ 0 → bks N M.toNat (M.toNat - 1) ≠ [] ∧ bk N M.toNat < M.toNat ∧ bk N M.toNat * N % M.toNat = 1 ∧ N ^ (M.toNat - 1) % M.toNat = 1 ∧ rpow N (-1) M.toNat = bk N M.toNat := by decide +kernel
end Xk
end
section
set_option Elab.async false
set_option linter.all false
set_option maxRecDepth 100000
set_option maxHeartbeats 4000000
namespace Xk
open PySem PySem.Spec PyProof.Rows L2 Xh LamX
/-! ### the law's own state -/
/-- the draws stand at d, the tables stand, and what qs tells stands -/
structure Wd (d : Addr) (T : List (Addr × Str)) (qs : List (Addr × HO)) (H : Hp) : Prop where
  D : Draw H d
  T : Tabs T H
  q : ∀ p ∈ qs, p.1 ≠ d ∧ H p.1 = some p.2 ∧ ∀ ps, p.2 ≠ .tbl ps
section
variable {d : Addr} {T : List (Addr × Str)} {qs : List (Addr × HO)} {H H' : Hp}
theorem Draw.ext (D : Draw H d) (x : ExtN H H') : Draw H' d := by
  obtain ⟨c, ns, i, r, g, h1, h2, h3⟩ := D
  exact ⟨c, ns, i, r, g, x _ _ h1 (fun _ z => by cases z), x _ _ h2 (fun _ z => by cases z), h3⟩
theorem Wd.ext (w : Wd d T qs H) (x : ExtN H H') (t : Tabs T H') : Wd d T qs H' := ⟨w.D.ext x, t, fun p hp => ⟨(w.q p hp).1, x _ _ (w.q p hp).2.1 (w.q p hp).2.2, (w.q p hp).2.2⟩⟩
theorem Wd.gr (w : Wd d T qs H) (g : Gr T H H') : Wd d T qs H' := w.ext g.x g.t
theorem Wd.same (w : Wd d T qs H) (s : Same H H') : Wd d T qs H' := ⟨w.D.same s, w.T.ext s, fun p hp => ⟨(w.q p hp).1, s _ _ (w.q p hp).2.1, (w.q p hp).2.2⟩⟩
theorem Tabs.but (t : Tabs T H) (D : Draw H d) (b : But d H H') : Tabs T H' := fun p hp => by
  obtain ⟨ps, h1, h2, h3⟩ := t p hp
  obtain ⟨c, ns, i, r, g, e, _⟩ := D
  refine ⟨ps, b _ _ (fun z => ?_) h1, h2, fun pos cv hc => ?_⟩
  · rw [z, e] at h1
    cases h1
  · obtain ⟨c', e1, e2⟩ := h3 pos cv hc
    refine ⟨c', e1, b _ _ (fun z => ?_) e2⟩
    rw [z, e] at e2
    unfold CodeO at e2
    cases e2
theorem Wd.but (w : Wd d T qs H) (b : But d H H') (D' : Draw H' d) : Wd d T qs H' := ⟨D', Tabs.but w.T w.D b, fun p hp => ⟨(w.q p hp).1, b _ _ (w.q p hp).1 (w.q p hp).2.1, (w.q p hp).2.2⟩⟩
theorem Wd.add (w : Wd d T qs H) {p : Addr} {o : HO} (hp : H p = none) (ho : ∀ ps, o ≠ .tbl ps) : Wd d T ((p, o) :: qs) (L2.upd H p o) := by
  have w' := w.same (same_upd (o := o) hp)
  refine ⟨w'.D, w'.T, fun r hr => ?_⟩
  rcases List.mem_cons.mp hr with rfl | hr
  · exact ⟨w.D.ne hp, upd_same, ho⟩
  · exact w'.q r hr
theorem Wd.sub {rs : List (Addr × HO)} (w : Wd d T qs H) (h : ∀ p ∈ rs, p ∈ qs) : Wd d T rs H := ⟨w.D, w.T, fun p hp => w.q p (h p hp)⟩
theorem Wd.at {p : Addr} {o : HO} (w : Wd d T qs H) (h : (p, o) ∈ qs) : H p = some o := (w.q _ h).2.1
end
theorem same_tup {K : PySem.W.Frag} {H : Hp} {p q : Addr} {xs : List V} (hp : H p = some (.tup xs)) (hq : H q = some (.tup xs)) (hf : xs.all flatV = true) (hl : xs.length ≤ 1000) : SameAt K H 1 (.ref p) (.ref q) :=
  .inr ⟨p, q, xs, xs, rfl, rfl, .inr ⟨SqT.of hp, SqT.of hq⟩, rfl, hl, fun i x y hx hy => by
    rw [hx] at hy
    cases hy
    exact ⟨List.all_eq_true.mp hf _ (List.mem_of_getElem? hx), rfl⟩⟩
theorem ex_why {K : PySem.W.Frag} {c : Fin 14 → Addr} {C : Addr} {nm : Str} {H : Hp} {Q : VK} (hc : Catch K c C 7) (hw : PySem.W.findIn K (.ref C) "word" = some none) (k : ∀ (H' : Hp) (p : Addr), Same H H' → H' p = none → Q (.ref p) (L2.upd H' p (.tup [.str nm, .non]))) : Ex H (wWhy K c Q) C nm :=
  fun d H' s hx _ => ⟨C, d, _, nm, rfl, rfl, hx, hc, hw, by simp [List.lookup], fun p hp => k H' p s hp⟩
def dueU (N M : Nat) : List V := if N = 0 then [.str "NoInverse", .non] else [.str "told", .int (bk N M)]
def dueP (N : Nat) (e : Int) (M : Nat) : List V := if N = 0 ∧ e < 0 then [.str "NoInverse", .non] else [.str "told", .int (rpow N e M)]
theorem dueU_flat (N M : Nat) : (dueU N M).all flatV = true ∧ (dueU N M).length ≤ 1000 := by
  unfold dueU
  by_cases h : N = 0
  · rw [if_pos h]; exact ⟨rfl, (by show 2 ≤ 1000; decide)⟩
  · rw [if_neg h]; exact ⟨rfl, (by show 2 ≤ 1000; decide)⟩
theorem dueP_flat (N : Nat) (e : Int) (M : Nat) : (dueP N e M).all flatV = true ∧ (dueP N e M).length ≤ 1000 := by
  unfold dueP
  by_cases h : N = 0 ∧ e < 0
  · rw [if_pos h]; exact ⟨rfl, (by show 2 ≤ 1000; decide)⟩
  · rw [if_neg h]; exact ⟨rfl, (by show 2 ≤ 1000; decide)⟩
theorem emod_neg_cases (e m : Int) (hm : 0 < m) : (e % m = 0 ∧ (-e) % m = 0) ∨ e % m + (-e) % m = m := by
  have h0 := Int.emod_nonneg e (show m ≠ 0 by omega)
  have h1 := Int.emod_lt_of_pos e hm
  have h2 := Int.emod_nonneg (-e) (show m ≠ 0 by omega)
  have h3 := Int.emod_lt_of_pos (-e) hm
  have h4 : (e % m + (-e) % m) % m = 0 := by
    rw [← Int.add_emod, show e + -e = 0 from by omega]
    exact Int.zero_emod m
  by_cases h5 : e % m + (-e) % m < m
  · rw [Int.emod_eq_of_lt (by omega) h5] at h4
    exact .inl (by omega)
  · right
    have h6 : (e % m + (-e) % m - m) % m = 0 := by rw [Int.sub_emod_right]; exact h4
    rw [Int.emod_eq_of_lt (by omega) (by omega)] at h6
    omega
theorem back_pow {M N : Nat} (hM : (M : Int) ∈ primes) (hN : N < M) (h0 : N ≠ 0) (e : Int) (he : e < 0) : rpow (bk N M) (-e) M = rpow N e M := by
  obtain ⟨_, b1, b2, b3, _⟩ := undo_facts M hM N (by rw [Int.toNat_natCast]; exact hN) h0
  rw [Int.toNat_natCast] at b1 b2 b3
  have hb := prime_bounds M hM
  have hm : (0 : Int) < (M : Int) - 1 := by omega
  have nb : bk N M ≠ 0 := fun z => by
    rw [z, Nat.zero_mul, Nat.zero_mod] at b2
    omega
  unfold rpow
  rw [if_neg nb, if_neg h0, Int.fmod_eq_emod_of_nonneg _ (by omega), Int.fmod_eq_emod_of_nonneg _ (by omega)]
  rcases emod_neg_cases e ((M : Int) - 1) hm with ⟨h1, h2⟩ | h
  · rw [h1, h2]
    rfl
  · have p1 := Int.emod_nonneg e (show (M : Int) - 1 ≠ 0 by omega)
    have p2 := Int.emod_nonneg (-e) (show (M : Int) - 1 ≠ 0 by omega)
    obtain ⟨s, hs⟩ := Int.eq_ofNat_of_zero_le p1
    obtain ⟨t, ht⟩ := Int.eq_ofNat_of_zero_le p2
    rw [hs, ht] at h ⊢
    rw [Int.toNat_natCast, Int.toNat_natCast]
    have st : s + t = M - 1 := by omega
    have l : (bk N M ^ t * N ^ (s + t)) % M = bk N M ^ t % M := by
      rw [st, Nat.mul_mod, b3, Nat.mul_one, Nat.mod_mod]
    have r : (bk N M ^ t * N ^ (s + t)) % M = N ^ s % M := by
      rw [Nat.pow_add, Nat.mul_comm (N ^ s), ← Nat.mul_assoc, ← Nat.mul_pow, Nat.mul_mod, Nat.pow_mod, b2, Nat.one_pow, Nat.mod_eq_of_lt (show 1 < M by omega), Nat.one_mul, Nat.mod_mod]
    rw [← l, r]
/-- what the classes of the refusals are -/
structure Kinds (K : PySem.W.Frag) (c C : Fin 14 → Addr) : Prop where
  h0 : Catch K c (C 0) 7
  h1 : Catch K c (C 1) 7
  h2 : Catch K c (C 2) 7
  w0 : PySem.W.findIn K (.ref (C 0)) "word" = some none
  w1 : PySem.W.findIn K (.ref (C 1)) "word" = some none
  w2 : PySem.W.findIn K (.ref (C 2)) "word" = some none
abbrev whyK (Q : VK) : VK := fun v H1 => [V.str "told", v].length ≤ sizeLine ∧ ∀ p, H1 p = none → Q (.ref p) (L2.upd H1 p (.tup [.str "told", v]))
theorem told_pow {K : PySem.W.Frag} {c C : Fin 14 → Addr} (KK : Kinds K c C) {T : List (Addr × Str)} {M N : Nat} (hM : (M : Int) ∈ primes) (hN : N < M) (e : Int) {H : Hp} {Q : VK} (hT : Tabs T H) (k : ∀ (H' : Hp) (p : Addr), Gr T H H' → H' p = none → Q (.ref p) (L2.upd H' p (.tup (dueP N e M)))) :
    spPow T C [.int N, .int e, .int M] H (whyK Q) (wWhy K c Q) := by
  refine ⟨N, e, M, rfl, hT, fun z => absurd hM z, fun _ z => absurd ⟨by omega, by omega⟩ z, fun _ hz he => ?_, fun _ _ hne H' g => ⟨(by show 2 ≤ sizeLine; decide), fun p hp => ?_⟩⟩
  · refine ex_why KK.h2 KK.w2 fun H' p s hp => ?_
    have z := k H' p (.of hT s) hp
    unfold dueP at z
    rw [if_pos ⟨by omega, he⟩] at z
    exact z
  · have z := k H' p g hp
    unfold dueP at z
    rw [if_neg (fun q => hne ⟨by omega, q.2⟩)] at z
    rw [Int.toNat_natCast, Int.toNat_natCast]
    exact z
theorem told_undone {K : PySem.W.Frag} {c C : Fin 14 → Addr} (KK : Kinds K c C) {T : List (Addr × Str)} {M N : Nat} (hM : (M : Int) ∈ primes) (hN : N < M) {H : Hp} {Q : VK} (hT : Tabs T H) (k : ∀ (H' : Hp) (p : Addr), Gr T H H' → H' p = none → Q (.ref p) (L2.upd H' p (.tup (dueU N M)))) :
    spUndone T C [.int N, .int M] H (whyK Q) (wWhy K c Q) := by
  refine ⟨N, M, rfl, told_pow KK hM hN (-1) hT fun H' p s hp => ?_⟩
  have z := k H' p s hp
  have e : dueP N (-1) M = dueU N M := by
    unfold dueP dueU
    by_cases h : N = 0
    · rw [if_pos ⟨h, by decide⟩, if_pos h]
    · have f := (undo_facts M hM N (by rw [Int.toNat_natCast]; exact hN) h).2.2.2.2
      rw [Int.toNat_natCast] at f
      rw [if_neg (fun z => h z.1), if_neg h, f]
  rw [e]
  exact z
end Xk
end
section
set_option Elab.async false
set_option linter.all false
set_option maxRecDepth 100000
set_option maxHeartbeats 8000000
namespace Xk
open PySem PySem.Spec PyProof.Rows L2 Xh LamX
theorem word_ix {K : PySem.W.Frag} {H : Hp} {Q : VK} {p : Addr} {y z : V} (h : Q y (L2.upd H p (.tup [y, z]))) : rIxT K (.ref p) (.int 0) (L2.upd H p (.tup [y, z])) Q := ⟨p, _, 0, y, rfl, rfl, SqT.of upd_same, rfl, h⟩
theorem word_pow0 {K : PySem.W.Frag} {c C : Fin 14 → Addr} (KK : Kinds K c C) {T : List (Addr × Str)} {n e p : Int} (hp : p ∉ primes) {H : Hp} {Q : VK} (hT : Tabs T H) (k : ∀ H', Same H H' → Q (.str "BadPrime") H') :
    spPow T C [.int n, .int e, .int p] H (whyK fun x H1 => rIxT K x (.int 0) H1 Q) (wWhy K c fun x H1 => rIxT K x (.int 0) H1 Q) :=
  ⟨n, e, p, rfl, hT, fun _ => ex_why KK.h0 KK.w0 fun H' q s hq => word_ix (k _ (s.trans (same_upd hq))), fun z => absurd z hp, fun z => absurd z hp, fun z => absurd z hp⟩
theorem word_pow1 {K : PySem.W.Frag} {c C : Fin 14 → Addr} (KK : Kinds K c C) {T : List (Addr × Str)} {n e p : Int} (hp : p ∈ primes) (hn : ¬ (0 ≤ n ∧ n < p)) {H : Hp} {Q : VK} (hT : Tabs T H) (k : ∀ H', Same H H' → Q (.str "BadRest") H') :
    spPow T C [.int n, .int e, .int p] H (whyK fun x H1 => rIxT K x (.int 0) H1 Q) (wWhy K c fun x H1 => rIxT K x (.int 0) H1 Q) :=
  ⟨n, e, p, rfl, hT, fun z => absurd hp z, fun _ _ => ex_why KK.h1 KK.w1 fun H' q s hq => word_ix (k _ (s.trans (same_upd hq))), fun _ z => absurd ⟨by omega, by have := prime_bounds p hp; omega⟩ hn, fun _ z => absurd z hn⟩
theorem dp_str {K : PySem.W.Frag} {H : Hp} {p : Addr} {a b c d : Str} (h : H p = some (.lst [.str a, .str b, .str c, .str d])) : Dp K H (.ref p) (.list [.str a, .str b, .str c, .str d]) := .lst (SqL.of h) (.cons (.str _) (.cons (.str _) (.cons (.str _) (.cons (.str _) .nil))))
section
variable {P : Program} {w : World} {K : PySem.W.Frag} {mg : Str → Option Value} {base : Heap}
def lamQ : Str := (envOfC "law" ⟨.function, [], false, false, []⟩ 0 0 .none).qual ++ "<lambda>"
/-- the tables: the law's, that of rest_power -/
abbrev TL (PL PR : Addr) : List (Addr × Str) := [(PL, lamQ), (PR, rpQ)]
def spLaw (K : PySem.W.Frag) (PL PR : Addr) : Sp := fun vs H Q _ => ∃ (a : Addr) (ns : List Int), vs = [.ref a] ∧ SqL K H a (ns.map V.int) ∧ Tabs (TL PL PR) H ∧ ∀ H', Q (.bl true) H'
abbrev s_law : Stmt := topS 42
theorem sc_law : FnScope (["_law_script", "_law_draw", "_law_turn", "_law_p", "_law_number", "_law_due", "_law_exponent", "_law_base", "_law_bad", "_law_far_here", "_law_words", "_law_one"] : List Str) ["_law_script"] (defScope s_law) := ⟨rfl, rfl, rfl, by decide +kernel, rfl, by decide +kernel, by decide +kernel⟩
theorem ok_law {f cL PL PR gwhy gword cP : Addr} {c C : Fin 14 → Addr} {fd : FuncData} (F : FunD K "law" "law" (defArgs s_law) (defBody s_law) (defScope s_law) [] [] f fd) (hcd : fd.code = .ref cL) (TB : TabB base mg cL PL) (T : Fre mg) (hne : PL ≠ PR) (KK : Kinds K c C)
    (o_law_begin : Own P w K mg base CX0 1 "_law_begin" ["_law_script"] [] (spBegin K)) (o_law_take : Own P w K mg base CX0 1 "_law_take" ["_law_draw", "_law_sides"] [] spTake) (o_law_of : Own P w K mg base CX0 2 "_law_of" ["_law_draw", "_law_row"] [] (spOf K))
    (o_law_primes : Own P w K mg base CX0 1 "_law_primes" [] [] spPrimes) (o_law_any_prime : Own P w K mg base CX0 3 "_law_any_prime" ["_law_draw"] [] spAnyPrime) (o_law_bad_prime : Own P w K mg base CX0 3 "_law_bad_prime" ["_law_draw"] [] spBad) (o_law_far : Own P w K mg base CX0 3 "_law_far" ["_law_draw", "_law_p"] [] spFar)
    (o_law_back : Own P w K mg base CX0 1 "_law_back" ["_law_number", "_law_p"] [] spBack) (o_law_raised : Own P w K mg base CX0 1 "_law_raised" ["_law_number", "_law_exponent", "_law_p"] [] spRPow) (o_law_same : Own P w K mg base CX0 2 "_law_same" ["_law_found", "_law_due"] [] (spS K 2))
    (o_is_prime : Own P w K mg base CX0 1 "is_prime" ["number"] [] spIsPrime)
    (G_law_why : Gives P w K mg base 7 5 "_law_why" gwhy (TTwhy K c)) (G_law_word : Gives P w K mg base 8 5 "_law_word" gword (TTword K c))
    (k_undone : OwnK P w K mg base (L2.CX P w) 5 1 "undone" ["number", "prime"] ["prime"] (spUndone (TL PL PR) C)) (o_undone : Own P w K mg base (L2.CX P w) 5 "undone" ["number", "prime"] [.int 2] (spUndone (TL PL PR) C))
    (k_powered : OwnK P w K mg base (L2.CX P w) 4 2 "powered" ["number", "exponent", "prime"] ["prime"] (spPow (TL PL PR) C)) (o_powered : Own P w K mg base (L2.CX P w) 4 "powered" ["number", "exponent", "prime"] [.int 2] (spPow (TL PL PR) C))
    (mP : mg "PRIMES" = some (.ref cP)) (hP : ∀ H, SqT K H cP (primes.map V.int)) (mL : ∃ t, mg "LEAST" = some (.int 2 t)) : FnOk P w K mg base CX0 9 f fd ["_law_script"] (spLaw K PL PR) := by
  refine FunD_okC F hcd sc_law (fun vs H Q E h => ?_) (fun A outer s H vs Q E hr h => ?_)
  · obtain ⟨a, ns, rfl, _⟩ := h
    rfl
  · obtain ⟨a, ns, rfl, hS, hT, k⟩ := h
    obtain ⟨tL, mL⟩ := mL
    have hmT : (PL, lamQ) ∈ TL PL PR := List.mem_cons_self
    have hu : ∀ p ∈ TL PL PR, p.1 = PL → p.2 = lamQ := fun p hp e => by
      rcases List.mem_cons.mp hp with rfl | hp
      · rfl
      · rw [List.mem_singleton.mp hp] at e
        exact absurd e.symm hne
    refine ⟨_, PSs.nox (pss_cons (ps_set (i := 1) sc_law.nd rfl (Or.inl rfl) (pe_own o_law_begin (hr.mono (by decide)) rfl pass0 (pa_cons (pv 0) pa_nil)))
      (pss_cons (ps_for PassesOwn.never rfl (pi_range1 (by rfl) T.f_range (pa_cons pe_int pa_nil)) (pg_name (i := 2) sc_law.nd rfl (Or.inl rfl)) (pss_cons (ps_set (i := 3) sc_law.nd rfl (Or.inr rfl) (pe_own o_law_any_prime (hr.mono (by decide)) rfl pass0 (pa_cons (pv 1) pa_nil)))
      (pss_cons (ps_set (i := 4) sc_law.nd rfl (Or.inr rfl) (pe_own o_law_of (hr.mono (by decide)) rfl pass0 (pa_cons (pv 1) (pa_cons (pe_lst (pa_cons pe_int (pa_cons pe_int (pa_cons (pe_op op_sub (pv 3) pe_int) (pa_cons (pe_own o_law_take (hr.mono (by decide)) rfl pass0 (pa_cons (pv 1) (pa_cons (pv 3) pa_nil))) pa_nil))))) pa_nil))))
      (C8.pss_cut (ps_set (i := 5) sc_law.nd rfl (Or.inl rfl) (pe_ifExp (pt_cmpR op_eq (pv 4) pe_int (nomark _)) (pe_tup (pa_cons pe_str (pa_cons pe_non pa_nil))) (pe_tup (pa_cons pe_str (pa_cons (pe_own o_law_back (hr.mono (by decide)) rfl pass0 (pa_cons (pv 4) (pa_cons (pv 3) pa_nil))) pa_nil)))))
      (pss_cons (ps_if (pt_not (pt_val (pe_own o_law_same (hr.mono (by decide)) rfl pass0 (pa_cons (pe_lam (T := TL PL PR) (kl := 5) G_law_why rfl TB rfl hmT hu (hr.mono (by decide)) (lamS_by (sc := defScope s_law) (by decide +kernel)) rfl (fun _ _ _ _ _ => rfl) (fun A outer s H E f c' hr2 => (pe_ownK k_undone (hr2.mono (by decide)) rfl (passes_call (takes_of rfl rfl rfl rfl) (fun _ _ _ _ h => h)) (pa_cons (pv 4) pa_nil) (pk_cons (pv 3) pk_nil)))) (pa_cons (pv 5) pa_nil))))) (pss_one (ps_ret pe_bl)) pss_nil)
      (C8.pss_cut (ps_if (PW.pt (pw_and (pt_cmpR op_eq (pv 3) pe_int (nomark _)) (pw_and1 (pt_not (pt_val (pe_own o_law_same (hr.mono (by decide)) rfl pass0 (pa_cons (pe_lam (T := TL PL PR) (kl := 5) G_law_why rfl TB rfl hmT hu (hr.mono (by decide)) (lamS_by (sc := defScope s_law) (by decide +kernel)) rfl (fun _ _ _ _ _ => rfl) (fun A outer s H E f c' hr2 => (pe_own o_undone (hr2.mono (by decide)) rfl (passes_call (takes_of rfl rfl rfl rfl) (fun _ _ _ _ h => h)) (pa_cons (pv 4) pa_nil)))) (pa_cons (pv 5) pa_nil)))))))) (pss_one (ps_ret pe_bl)) pss_nil)
      (pss_cons (ps_set (i := 6) sc_law.nd rfl (Or.inr rfl) (pe_own o_law_of (hr.mono (by decide)) rfl pass0 (pa_cons (pv 1) (pa_cons (pe_lst (pa_cons pe_int (pa_cons pe_int (pa_cons (pe_un un_neg pe_int) (pa_cons (pe_op op_sub (pv 3) pe_int) (pa_cons (pe_op op_add (pe_op op_pow pe_int pe_int) (pe_own o_law_take (hr.mono (by decide)) rfl pass0 (pa_cons (pv 1) (pa_cons (pe_op op_pow pe_int pe_int) pa_nil)))) (pa_cons (pe_op op_sub pe_int (pe_own o_law_take (hr.mono (by decide)) rfl pass0 (pa_cons (pv 1) (pa_cons pe_int pa_nil)))) pa_nil))))))) pa_nil))))
      (pss_cons (ps_set (i := 5) sc_law.nd rfl (Or.inl rfl) (pe_tup (pa_cons pe_str (pa_cons pe_non pa_nil))))
      (C8.pss_cut (ps_if (PW.pt (pw_or (pt_cmpR op_gt (pv 4) pe_int (nomark _)) (pw_or1 (pt_cmpR op_ge (pv 6) pe_int (nomark _))))) (pss_cons (ps_set (i := 7) sc_law.nd rfl (Or.inl rfl) (pe_ifExp (pt_cmpR op_ge (pv 6) pe_int (nomark _)) (pv 4) (pe_own o_law_back (hr.mono (by decide)) rfl pass0 (pa_cons (pv 4) (pa_cons (pv 3) pa_nil)))))
      (pss_one (ps_set (i := 5) sc_law.nd rfl (Or.inl rfl) (pe_tup (pa_cons pe_str (pa_cons (pe_own o_law_raised (hr.mono (by decide)) rfl pass0 (pa_cons (pv 7) (pa_cons (pe_callB call_abs (by rfl) T.f_abs (by decide +kernel) (pa_cons (pv 6) pa_nil)) (pa_cons (pv 3) pa_nil)))) pa_nil)))))) pss_nil)
      (pss_cons (ps_if (pt_not (pt_val (pe_own o_law_same (hr.mono (by decide)) rfl pass0 (pa_cons (pe_lam (T := TL PL PR) (kl := 5) G_law_why rfl TB rfl hmT hu (hr.mono (by decide)) (lamS_by (sc := defScope s_law) (by decide +kernel)) rfl (fun _ _ _ _ _ => rfl) (fun A outer s H E f c' hr2 => (pe_ownK k_powered (hr2.mono (by decide)) rfl (passes_call (takes_of rfl rfl rfl rfl) (fun _ _ _ _ h => h)) (pa_cons (pv 4) (pa_cons (pv 6) pa_nil)) (pk_cons (pv 3) pk_nil)))) (pa_cons (pv 5) pa_nil))))) (pss_one (ps_ret pe_bl)) pss_nil)
      (C8.pss_cut (ps_if (PW.pt (pw_and (pt_cmpR op_eq (pv 3) pe_int (nomark _)) (pw_and1 (pt_not (pt_val (pe_own o_law_same (hr.mono (by decide)) rfl pass0 (pa_cons (pe_lam (T := TL PL PR) (kl := 5) G_law_why rfl TB rfl hmT hu (hr.mono (by decide)) (lamS_by (sc := defScope s_law) (by decide +kernel)) rfl (fun _ _ _ _ _ => rfl) (fun A outer s H E f c' hr2 => (pe_own o_powered (hr2.mono (by decide)) rfl (passes_call (takes_of rfl rfl rfl rfl) (fun _ _ _ _ h => h)) (pa_cons (pv 4) (pa_cons (pv 6) pa_nil))))) (pa_cons (pv 5) pa_nil)))))))) (pss_one (ps_ret pe_bl)) pss_nil)
      (pss_cons (ps_asg (pe_tup (pa_cons (pe_own o_law_bad_prime (hr.mono (by decide)) rfl pass0 (pa_cons (pv 1) pa_nil)) (pa_cons (pe_own o_law_far (hr.mono (by decide)) rfl pass0 (pa_cons (pv 1) (pa_cons (pv 3) pa_nil))) pa_nil))) (pg_tup rfl (pgs_cons (pg_name (i := 8) sc_law.nd rfl (Or.inr rfl)) (pgs_cons (pg_name (i := 9) sc_law.nd rfl (Or.inr rfl)) pgs_nil))))
      (pss_cons (ps_set (i := 10) sc_law.nd rfl (Or.inl rfl) (pe_lst (pa_cons (pe_lam (T := TL PL PR) (kl := 5) G_law_word rfl TB rfl hmT hu (hr.mono (by decide)) (lamS_by (sc := defScope s_law) (by decide +kernel)) rfl (fun _ _ _ _ _ => rfl) (fun A outer s H E f c' hr2 => (pe_ownK k_undone (hr2.mono (by decide)) rfl (passes_call (takes_of rfl rfl rfl rfl) (fun _ _ _ _ h => h)) (pa_cons (pv 9) pa_nil) (pk_cons (pv 8) pk_nil)))) (pa_cons (pe_lam (T := TL PL PR) (kl := 5) G_law_word rfl TB rfl hmT hu (hr.mono (by decide)) (lamS_by (sc := defScope s_law) (by decide +kernel)) rfl (fun _ _ _ _ _ => rfl) (fun A outer s H E f c' hr2 => (pe_ownK k_powered (hr2.mono (by decide)) rfl (passes_call (takes_of rfl rfl rfl rfl) (fun _ _ _ _ h => h)) (pa_cons (pv 9) (pa_cons (pe_un un_neg pe_int) pa_nil)) (pk_cons (pv 8) pk_nil)))) pa_nil))))
      (pss_cons (ps_set (i := 10) sc_law.nd rfl (Or.inl rfl) (pe_op op_cat (pv 10) (pe_lst (pa_cons (pe_lam (T := TL PL PR) (kl := 5) G_law_word rfl TB rfl hmT hu (hr.mono (by decide)) (lamS_by (sc := defScope s_law) (by decide +kernel)) rfl (fun _ _ _ _ _ => rfl) (fun A outer s H E f c' hr2 => (pe_ownK k_undone (hr2.mono (by decide)) rfl (passes_call (takes_of rfl rfl rfl rfl) (fun _ _ _ _ h => h)) (pa_cons (pv 9) pa_nil) (pk_cons (pv 3) pk_nil)))) (pa_cons (pe_lam (T := TL PL PR) (kl := 5) G_law_word rfl TB rfl hmT hu (hr.mono (by decide)) (lamS_by (sc := defScope s_law) (by decide +kernel)) rfl (fun _ _ _ _ _ => rfl) (fun A outer s H E f c' hr2 => (pe_ownK k_powered (hr2.mono (by decide)) rfl (passes_call (takes_of rfl rfl rfl rfl) (fun _ _ _ _ h => h)) (pa_cons (pv 9) (pa_cons pe_int pa_nil)) (pk_cons (pv 3) pk_nil)))) pa_nil)))))
      (pss_cons (ps_if (pt_cmpR (op_neD hr.units) (pv 10) (pe_lst (pa_cons pe_str (pa_cons pe_str (pa_cons pe_str (pa_cons pe_str pa_nil))))) (nomark _)) (pss_one (ps_ret pe_bl)) pss_nil)
      (pss_one (ps_for PassesOwn.never rfl (pi_tup (pe_tup (pa_cons (pv 8) (pa_cons (pv 3) (pa_cons (pe_own o_law_take (hr.mono (by decide)) rfl pass0 (pa_cons (pv 1) (pa_cons pe_int pa_nil))) pa_nil))))) (pg_name (i := 11) sc_law.nd rfl (Or.inl rfl)) (pss_one (ps_if (pt_not (pt_val (pe_own o_law_same (hr.mono (by decide)) rfl pass0 (pa_cons (pe_own o_is_prime (hr.mono (by decide)) rfl pass0 (pa_cons (pv 11) pa_nil)) (pa_cons (pe_cmpR op_in_seq (pv 11) (pe_own0 o_law_primes (hr.mono (by decide)) rfl pass0) (by rfl)) pa_nil))))) (pss_one (ps_ret pe_bl)) pss_nil)))))))))))))))))))
      (pss_one (ps_ret (pe_and (pe_cmpR op_eq (pe_glob (v := .int 2) rfl mL ⟨_, rfl⟩) pe_int (nomark _)) (pe_one (pe_own o_law_same (hr.mono (by decide)) rfl pass0 (pa_cons (pe_glob (v := .ref cP) rfl mP rfl) (pa_cons (pe_callTy call_tuple_of (by rfl) T.f_tuple (by decide +kernel) (pa_cons (pe_own0 o_law_primes (hr.mono (by decide)) rfl pass0) pa_nil)) pa_nil))))))))) , ?_⟩
    refine ⟨_, rfl, a, ns, rfl, hS, fun d H1 s1 n1 D1 => ?_⟩
    have T1 := hT.ext s1
    refine ⟨6, rfl, by decide, by decide, for_range (lo := 0) (n := 6) (fun i σ' H' => ∃ x2 x3 x4 x5 x6 x7 x8 x9 x10 x11, σ' = [some (.ref a), some (.ref d), x2, x3, x4, x5, x6, x7, x8, x9, x10, x11] ∧ Wd d (TL PL PR) [] H') ⟨none, none, none, none, none, none, none, none, none, none, rfl, D1, T1, fun p hp => nomatch hp⟩ ?_ ?_⟩
    · rintro i σ' H' hi ⟨x2, x3, x4, x5, x6, x7, x8, x9, x10, x11, rfl, W0⟩
      refine ⟨_, rfl, d, rfl, W0.D, fun p H1 hp D1 B1 => ?_⟩
      have W1 := W0.but B1 D1
      have hb := prime_bounds p hp
      obtain ⟨M, rfl⟩ := Int.eq_ofNat_of_zero_le (show 0 ≤ p by omega)
      refine ⟨_, rfl, _, rfl, _, _, rfl, rfl, _, rfl, _, rfl, d, M, rfl, D1, by omega, big (by omega), fun m H2 m0 m1 D2 B2 => ⟨(by show 4 ≤ sizeLine; decide), fun q2 hq2 => ⟨d, q2, _, rfl, D2.same (same_upd hq2), SqL.of upd_same, D2.ne hq2, (by show 0 < 4; decide), (by show 4 ≤ 1000; decide), fun x H3 hx D3 B3 => ?_⟩⟩⟩
      have W3 := ((W1.but B2 D2).same (same_upd (o := .lst [.int 0, .int 1, .int ((M : Int) - 1), .int m]) hq2)).but B3 D3
      have hN : ∃ N : Nat, x = .int N ∧ N < M := by
        simp only [List.mem_cons, List.not_mem_nil, or_false] at hx
        rcases hx with rfl | rfl | rfl | rfl
        · exact ⟨0, rfl, by omega⟩
        · exact ⟨1, rfl, by omega⟩
        · exact ⟨M - 1, congrArg V.int (by omega), by omega⟩
        · exact ⟨m.toNat, congrArg V.int (by omega), by omega⟩
      obtain ⟨N, rfl, hN⟩ := hN
      -- what is due of the one
      refine ⟨fun σ' H' => ∃ q y6 y7 y8 y9 y10 y11, σ' = [some (.ref a), some (.ref d), some (.int (0 + (i : Int))), some (.int M), some (.int N), some (.ref q), y6, y7, y8, y9, y10, y11] ∧ Wd d (TL PL PR) [(q, .tup (dueU N M))] H', ?_, ?_⟩
      · refine ⟨_, rfl, rfl, _, rfl, ite2 (fun hc => ?_) (fun hc => ?_)⟩
        · have h0 : N = 0 := by
            have z := V.int.inj (of_decide_eq_true hc)
            omega
          refine ⟨(by show 2 ≤ sizeLine; decide), fun q hq => ⟨q, _, _, _, _, _, _, rfl, ?_⟩⟩
          have z := W3.add (o := .tup (dueU N M)) hq (fun _ z => by cases z)
          have e : dueU N M = [.str "NoInverse", .non] := if_pos h0
          rw [e] at z ⊢
          exact z
        · have h0 : N ≠ 0 := fun z => hc (decide_eq_true (by rw [z]; rfl))
          have f := undo_facts M hp N (by rw [Int.toNat_natCast]; exact hN) h0
          rw [Int.toNat_natCast] at f
          refine ⟨_, rfl, _, rfl, N, M, rfl, by omega, by omega, f.1, fun H4 s4 => ⟨(by show 2 ≤ sizeLine; decide), fun q hq => ⟨q, _, _, _, _, _, _, rfl, ?_⟩⟩⟩
          have z := (W3.same s4).add (o := .tup (dueU N M)) hq (fun _ z => by cases z)
          have e : dueU N M = [.str "told", .int (bk N M)] := if_neg h0
          rw [e] at z ⊢
          exact z
      rintro σ' H4 ⟨q, y6, y7, y8, y9, y10, y11, rfl, W4⟩
      refine ⟨W4.T, fun H5 x5 T5 => ⟨_, rfl, _, rfl, rfl, rfl, told_undone KK hp hN T5 fun H6 p6 s6 n6 => ?_⟩⟩
      have W6 := ((W4.ext x5 T5).gr s6).add (o := .tup (dueU N M)) n6 (fun _ z => by cases z)
      refine ⟨_, rfl, _, _, rfl, same_tup (W6.at (by simp)) (W6.at (p := q) (by simp)) (dueU_flat N M).1 (dueU_flat N M).2, fun H7 s7 => ⟨_, rfl, iteF ?_⟩⟩
      have W7 : Wd d (TL PL PR) [(q, .tup (dueU N M))] H7 := (W6.same s7).sub (fun r hr => List.mem_cons_of_mem _ hr)
      refine ⟨fun σ' H' => ∃ y5 y6 y7 y8 y9 y10 y11, σ' = [some (.ref a), some (.ref d), some (.int (0 + (i : Int))), some (.int M), some (.int N), y5, y6, y7, y8, y9, y10, y11] ∧ Wd d (TL PL PR) [] H', ?_, ?_⟩
      · have none_ : ∀ {H' : Hp}, Wd d (TL PL PR) [(q, .tup (dueU N M))] H' → Wd d (TL PL PR) [] H' := fun w => w.sub (fun r hr => nomatch hr)
        refine ⟨_, rfl, rfl, _, rfl, ite2 (fun hc => ?_) (fun hc => ?_)⟩
        · have h2 : M = 2 := by
            have z := V.int.inj (of_decide_eq_true hc)
            omega
          subst h2
          refine ⟨W7.T, fun H8 x8 T8 => ⟨_, rfl, told_undone KK hp hN T8 fun H9 p9 s9 n9 => ?_⟩⟩
          have W9 := ((W7.ext x8 T8).gr s9).add (o := .tup (dueU N 2)) n9 (fun _ z => by cases z)
          refine ⟨_, rfl, _, _, rfl, same_tup (W9.at (by simp)) (W9.at (p := q) (by simp)) (dueU_flat N 2).1 (dueU_flat N 2).2, fun H10 s10 => ⟨_, rfl, iteF ?_⟩⟩
          exact ⟨_, _, _, _, _, _, _, rfl, (W9.same s10).sub (fun r hr => nomatch hr)⟩
        · exact iteF ⟨_, _, _, _, _, _, _, rfl, none_ W7⟩
      rintro σ' H8 ⟨y5, y6, y7, y8, y9, y10, y11, rfl, W8⟩
      -- the exponent
      refine ⟨_, rfl, _, rfl, _, rfl, _, _, rfl, rfl, _, _, rfl, rfl, ⟨by decide, by decide, by decide⟩, _, rfl, _, _, rfl, rfl, ⟨by decide, by decide, by decide⟩, d, _, rfl, W8.D, by decide, by decide, fun u1 H9 u10 u11 D9 B9 => ?_⟩
      refine ⟨_, _, rfl, rfl, _, rfl, d, 41, rfl, D9, by decide, by decide, fun u2 H10 u20 u21 D10 B10 => ?_⟩
      refine ⟨_, _, rfl, rfl, (by show 6 ≤ sizeLine; decide), fun q3 hq3 => ⟨d, q3, _, rfl, D10.same (same_upd hq3), SqL.of upd_same, D10.ne hq3, (by show 0 < 6; decide), (by show 6 ≤ 1000; decide), fun x H11 hx D11 B11 => ?_⟩⟩
      have W11 := (((W8.but B9 D9).but B10 D10).same (same_upd hq3)).but B11 D11
      have he : ∃ e : Int, x = .int e := by
        simp only [List.mem_cons, List.not_mem_nil, or_false] at hx
        rcases hx with rfl | rfl | rfl | rfl | rfl | rfl <;> exact ⟨_, rfl⟩
      obtain ⟨e, rfl⟩ := he
      refine ⟨(by show 2 ≤ sizeLine; decide), fun q4 hq4 => ?_⟩
      have W12 := W11.add (o := .tup [.str "NoInverse", .non]) hq4 (fun _ z => by cases z)
      -- what is due of the other
      refine ⟨fun σ' H' => ∃ q y7 y8 y9 y10 y11, σ' = [some (.ref a), some (.ref d), some (.int (0 + (i : Int))), some (.int M), some (.int N), some (.ref q), some (.int e), y7, y8, y9, y10, y11] ∧ Wd d (TL PL PR) [(q, .tup (dueP N e M))] H', ?_, ?_⟩
      · have told : ∀ (B : Nat) (v : Int) (H13 : Hp) (y7 : Option V), Wd d (TL PL PR) [(q4, .tup [.str "NoInverse", .non])] H13 → ¬ (N = 0 ∧ e < 0) → B < M → rpow B v M = rpow N e M → ∀ q5, H13 q5 = none → Wd d (TL PL PR) [(q5, .tup (dueP N e M))] (L2.upd H13 q5 (.tup [.str "told", .int (rpow B v M)])) := fun B v H13 y7 W13 hne hB hv q5 hq5 => by
          have z := W13.add (o := .tup (dueP N e M)) hq5 (fun _ z => by cases z)
          have e' : dueP N e M = [.str "told", .int (rpow N e M)] := if_neg hne
          rw [hv]
          rw [e'] at z ⊢
          exact z.sub (fun r hr => by rw [List.mem_singleton.mp hr]; exact List.mem_cons_self)
        have body : ¬ (N = 0 ∧ e < 0) → _ := fun hne => by
          refine (⟨_, rfl, _, _, rfl, rfl, _, rfl, ite2 (fun hge => ?_) (fun hge => ?_)⟩ : tSeq (tAsg (tIf (tTest (tOp (rI0 fun i j => V.bl (decide (j ≤ i))) (tVar 6) (tC (V.int 0)))) (tVar 4) (tCall spBack [] E0 (tCons (tVar 4) (tCons (tVar 3) tNil)))) (gName 7)) (tAsg (tTup (tCons (tC (V.str "told")) (tCons (tCall spRPow [] E0 (tCons (tVar 7) (tCons (tCB (fun xs H Q => ∃ i, xs = [V.int i] ∧ Q (V.int (if i < 0 then -i else i)) H) (tCons (tVar 6) tNil)) (tCons (tVar 3) tNil)))) tNil))) (gName 5)) { nx := fun σ' H' => ∃ q y7 y8 y9 y10 y11, σ' = [some (.ref a), some (.ref d), some (.int (0 + (i : Int))), some (.int M), some (.int N), some (.ref q), some (.int e), y7, y8, y9, y10, y11] ∧ Wd d (TL PL PR) [(q, .tup (dueP N e M))] H', rt := Q } [some (.ref a), some (.ref d), some (.int (0 + (i : Int))), some (.int M), some (.int N), some (.ref q4), some (.int e), y7, y8, y9, y10, y11] (L2.upd H11 q4 (.tup [.str "NoInverse", .non])))
          · have g : 0 ≤ e := of_decide_eq_true hge
            refine ⟨_, rfl, _, rfl, _, rfl, _, rfl, _, rfl, N, M, _, rfl, by omega, by omega, hN, (by show 2 ≤ sizeLine; decide), fun q5 hq5 => ⟨q5, _, _, _, _, _, rfl, ?_⟩⟩
            exact told N _ _ none W12 hne hN (by rw [if_neg (by omega)]) q5 hq5
          · have g : e < 0 := by
              by_cases z : 0 ≤ e
              · exact absurd (decide_eq_true z) hge
              · omega
            have h0 : N ≠ 0 := fun z => hne ⟨z, g⟩
            have f := undo_facts M hp N (by rw [Int.toNat_natCast]; exact hN) h0
            rw [Int.toNat_natCast] at f
            refine ⟨_, rfl, _, rfl, N, M, rfl, by omega, by omega, f.1, fun H13 s13 => ?_⟩
            refine ⟨_, rfl, _, rfl, _, rfl, _, rfl, bk N M, M, _, rfl, by omega, by omega, f.2.1, (by show 2 ≤ sizeLine; decide), fun q5 hq5 => ⟨q5, _, _, _, _, _, rfl, ?_⟩⟩
            exact told (bk N M) _ _ none (W12.same s13 |>.sub (fun r hr => by rw [List.mem_singleton.mp hr]; exact List.mem_cons_self)) hne f.2.1 (by rw [if_pos g]; exact back_pow hp hN h0 e g) q5 hq5
        refine ⟨_, rfl, _, _, rfl, rfl, _, rfl, ite2 (fun hc => iteT (body fun z => ?_)) (fun hc => ?_)⟩
        · have z' := of_decide_eq_true hc
          omega
        · have h0 : N = 0 := by
            by_cases z : N = 0
            · exact z
            · exact absurd (decide_eq_true (show (0 : Int) < (N : Int) by omega)) hc
          refine ⟨_, rfl, _, _, rfl, rfl, _, rfl, ite2 (fun hge => body fun z => ?_) (fun hge => ?_)⟩
          · have z' := of_decide_eq_true hge
            omega
          · have g : e < 0 := by
              by_cases z : 0 ≤ e
              · exact absurd (decide_eq_true z) hge
              · omega
            refine ⟨q4, _, _, _, _, _, rfl, ?_⟩
            have e' : dueP N e M = [.str "NoInverse", .non] := if_pos ⟨h0, g⟩
            rw [e']
            exact W12
      rintro σ' H13 ⟨q, y7, y8, y9, y10, y11, rfl, W13⟩
      refine ⟨W13.T, fun H5 x5 T5 => ⟨_, rfl, _, rfl, _, rfl, rfl, rfl, told_pow KK hp hN e T5 fun H6 p6 s6 n6 => ?_⟩⟩
      have W6 := ((W13.ext x5 T5).gr s6).add (o := .tup (dueP N e M)) n6 (fun _ z => by cases z)
      refine ⟨_, rfl, _, _, rfl, same_tup (W6.at (by simp)) (W6.at (p := q) (by simp)) (dueP_flat N e M).1 (dueP_flat N e M).2, fun H7 s7 => ⟨_, rfl, iteF ?_⟩⟩
      have W7 : Wd d (TL PL PR) [(q, .tup (dueP N e M))] H7 := (W6.same s7).sub (fun r hr => List.mem_cons_of_mem _ hr)
      refine ⟨fun σ' H' => ∃ y4 y5 y6 y7 y8 y9 y10 y11, σ' = [some (.ref a), some (.ref d), some (.int (0 + (i : Int))), some (.int M), y4, y5, y6, y7, y8, y9, y10, y11] ∧ Wd d (TL PL PR) [] H', ?_, ?_⟩
      · refine ⟨_, rfl, rfl, _, rfl, ite2 (fun hc => ?_) (fun hc => ?_)⟩
        · have h2 : M = 2 := by
            have z := V.int.inj (of_decide_eq_true hc)
            omega
          subst h2
          refine ⟨W7.T, fun H8 x8 T8 => ⟨_, rfl, _, rfl, told_pow KK hp hN e T8 fun H9 p9 s9 n9 => ?_⟩⟩
          have W9 := ((W7.ext x8 T8).gr s9).add (o := .tup (dueP N e 2)) n9 (fun _ z => by cases z)
          refine ⟨_, rfl, _, _, rfl, same_tup (W9.at (by simp)) (W9.at (p := q) (by simp)) (dueP_flat N e 2).1 (dueP_flat N e 2).2, fun H10 s10 => ⟨_, rfl, iteF ?_⟩⟩
          exact ⟨_, _, _, _, _, _, _, _, rfl, (W9.same s10).sub (fun r hr => nomatch hr)⟩
        · exact iteF ⟨_, _, _, _, _, _, _, _, rfl, W7.sub (fun r hr => nomatch hr)⟩
      rintro σ' H14 ⟨y4, y5, y6, y7, y8, y9, y10, y11, rfl, W14⟩
      -- the bad ones
      refine ⟨_, rfl, d, rfl, W14.D, fun mb H15 hmb D15 B15 => ⟨_, rfl, _, rfl, d, M, rfl, D15, hp, fun mf H16 hmf D16 B16 => ⟨(by show 2 ≤ sizeLine; decide), fun q5 hq5 => ⟨q5, _, rfl, SqT.of upd_same, rfl, _, _, rfl, _, _, rfl, rfl, ?_⟩⟩⟩⟩
      have W16 := ((W14.but B15 D15).but B16 D16).same (same_upd (o := .tup [.int mb, .int mf]) hq5)
      refine ⟨W16.T, fun H17 x17 T17 => ⟨_, rfl, _, rfl, rfl, rfl, mf, mb, rfl, word_pow0 KK hmb T17 fun H18 s18 => ?_⟩⟩
      have W18 := (W16.ext x17 T17).same s18
      refine ⟨W18.T, fun H19 x19 T19 => ⟨_, rfl, _, rfl, _, rfl, rfl, rfl, word_pow0 KK hmb T19 fun H20 s20 => ⟨(by show 2 ≤ sizeLine; decide), fun q6 hq6 => ?_⟩⟩⟩
      have W20 := ((W18.ext x19 T19).same s20).add (o := .lst [.str "BadPrime", .str "BadPrime"]) hq6 (fun _ z => by cases z)
      refine ⟨_, rfl, W20.T, fun H21 x21 T21 => ⟨_, rfl, _, rfl, rfl, rfl, mf, M, rfl, word_pow1 KK hp hmf T21 fun H22 s22 => ?_⟩⟩
      have W22 := (W20.ext x21 T21).same s22
      refine ⟨W22.T, fun H23 x23 T23 => ⟨_, rfl, _, rfl, rfl, rfl, word_pow1 KK hp hmf T23 fun H24 s24 => ⟨(by show 2 ≤ sizeLine; decide), fun q7 hq7 => ?_⟩⟩⟩
      have W24 := ((W22.ext x23 T23).same s24).add (o := .lst [.str "BadRest", .str "BadRest"]) hq7 (fun _ z => by cases z)
      refine ⟨q6, q7, _, _, rfl, rfl, W24.at (List.mem_cons_of_mem _ List.mem_cons_self), upd_same, (by show 4 ≤ sizeLine; decide), fun q8 hq8 => ?_⟩
      have W25 := W24.add (o := .lst [.str "BadPrime", .str "BadPrime", .str "BadRest", .str "BadRest"]) hq8 (fun _ z => by cases z)
      refine ⟨_, rfl, (by show 4 ≤ sizeLine; decide), fun q9 hq9 => ?_⟩
      have W26 := W25.add (o := .lst [.str "BadPrime", .str "BadPrime", .str "BadRest", .str "BadRest"]) hq9 (fun _ z => by cases z)
      refine ⟨_, _, dp_str (W26.at (p := q8) (List.mem_cons_of_mem _ List.mem_cons_self)), dp_str (W26.at (p := q9) List.mem_cons_self), by decide +kernel, by decide +kernel, _, rfl, ?_⟩
      refine iteF ?_
      -- which are primes
      refine ⟨_, rfl, _, rfl, _, rfl, d, 130, rfl, W26.D, by decide, by decide, fun m7 H27 m70 m71 D27 B27 => ⟨(by show 3 ≤ sizeLine; decide), fun q10 hq10 => ?_⟩⟩
      have W27 := (W26.but B27 D27).add (o := .tup [.int mb, .int M, .int m7]) hq10 (fun _ z => by cases z)
      refine ⟨q10, rfl, ⟨_, SqT.of upd_same⟩, for_tup (K := K) (a := q10) (xs := [.int mb, .int M, .int m7]) (fun j σ' H' => ∃ y4 y5 y6 y7 y10 y11, σ' = [some (.ref a), some (.ref d), some (.int (0 + (i : Int))), some (.int M), y4, y5, y6, y7, some (.int mb), some (.int mf), y10, y11] ∧ Wd d (TL PL PR) [(q10, .tup [.int mb, .int M, .int m7])] H')
        ⟨_, _, _, _, _, _, rfl, W27.sub (fun r hr => by rw [List.mem_singleton.mp hr]; exact List.mem_cons_self)⟩ (fun j σ' H' _ ⟨_, _, _, _, _, _, _, w⟩ => SqT.of (w.at List.mem_cons_self)) ?_ ?_⟩
      · rintro j x σ' H28 hx ⟨y4, y5, y6, y7, y10, y11, rfl, W28⟩
        have hi : ∃ n : Int, x = .int n := by
          have z := List.mem_of_getElem? hx
          simp only [List.mem_cons, List.not_mem_nil, or_false] at z
          rcases z with rfl | rfl | rfl <;> exact ⟨_, rfl⟩
        obtain ⟨n, rfl⟩ := hi
        refine ⟨_, rfl, n, rfl, _, rfl, rfl, fun p5 H29 s29 n29 e29 => ⟨p5, _, rfl, .inl (SqL.of e29), rfl, all_flat _, ?_⟩⟩
        rw [if_neg (by decide), inV_ints]
        refine ⟨_, _, rfl, .inl ⟨rfl, rfl⟩, fun H30 s30 => ⟨_, rfl, iteF ?_⟩⟩
        exact ⟨_, _, _, _, _, _, rfl, (W28.same s29).same s30⟩
      · rintro σ' H28 ⟨y4, y5, y6, y7, y10, y11, rfl, W28⟩
        exact ⟨_, _, _, _, _, _, _, _, _, _, rfl, W28.sub (fun r hr => nomatch hr)⟩
    · rintro σ' H' ⟨x2, x3, x4, x5, x6, x7, x8, x9, x10, x11, rfl, W0⟩
      refine ⟨rfl, _, rfl, ?_⟩
      rw [decide_eq_true rfl]
      refine iteT ⟨rfl, fun p H1 s1 n1 e1 => ⟨p, _, rfl, .inl ⟨SqL.of e1, fun l hl => ⟨_, _, rfl, .inr ⟨cP, l, _, _, rfl, rfl, .inr ⟨hP _, SqT.of upd_same⟩, rfl, by decide, fun j x y hx hy => ?_⟩, fun H2 _ => k H2⟩⟩⟩⟩
      rw [hx] at hy
      cases hy
      exact ⟨List.all_eq_true.mp (all_flat primes) _ (List.mem_of_getElem? hx), rfl⟩
end
end Xk
end
section
set_option Elab.async false
set_option linter.all false
set_option maxRecDepth 100000
set_option maxHeartbeats 0
namespace Xk
open PySem PySem.Spec PyProof.Rows L2 Xh LamX
abbrev s_RungError___init : Stmt := inClass (topS 1) 0
theorem sc_RungError___init : FnScope (["self", "told"] : List Str) ["self", "told"] (defScope s_RungError___init) := ⟨rfl, rfl, rfl, by decide +kernel, rfl, by decide +kernel, by decide +kernel⟩
/-! ### the head: what of the written part is looked at -/
open He
/-- the class at C, an own exception over ValueError, called nm; f: how it is made -/
def clsB (K : PySem.W.Frag) (C fI : Addr) (nm : Str) : Bool := (match K.lookup C with
    | some ⟨.type c, _, .cls cd, sl⟩ => decide (c = "type") && ((match cd.mro with
      | .ref a :: bm => decide (a = C) && PySem.HandSPX.refsVE bm
      | _ => false) && (cd.hasDict && (!cd.hasDel && ((match sl.toList with
      | [_, _, some (.str x _), _, some (.builtin n), _] => decide (x = nm) && decide (n = "ValueError.__new__")
      | _ => false)))))
    | _ => false) &&
  (eqO (PySem.W.findIn K (.ref C) "__setattr__") (some (some (.builtin "object.__setattr__"))) && (decide (PySem.W.subIn K (.ref C) (.type "BaseException") = some true) && (decide (PySem.W.typeIn K (.ref C) = some (.type "type")) && (PySem.W.keepIn K (.ref C) &&
  (eqO (PySem.W.findIn K (.ref C) "__getattribute__") (some (some (.builtin "BaseException.__getattribute__"))) && (eqO (PySem.W.findIn K (.ref C) "__getattr__") (some none) && (PySem.W.hasDictIn K C && (eqO (PySem.W.findIn K (.ref C) "__class__") (some (some (.builtin "object.__class__"))) &&
  (eqO (PySem.W.specialIn K (.builtin "object.__class__") "__get__") (some (some (.builtin "getset_descriptor.__get__"))) && (decide (PySem.W.takesIn K (.builtin "object.__class__") = some true) && (decide (PySem.W.mroIn K C (.type "object") = some true) && (PySem.W.readsIn K C (.type "type") &&
  ((match PySem.W.findCls K (.ref C) (.type "type") "__name__" with
    | some (.get (.builtin g) (.builtin n) (.ref c) (.type t)) => decide (g = "getset_descriptor.__get__") && (decide (n = "type.__name__") && (decide (c = C) && decide (t = "type")))
    | _ => false) && (eqO (PySem.W.findIn K (.ref C) "word") (some none) && (eqO (PySem.W.findIn K (.ref C) "__init__") (some (some (.ref fI))) && decide (PySem.W.typeIn K (.ref fI) = some (.type "function")))))))))))))))))
theorem clsB_ok {K : PySem.W.Frag} {C fI : Addr} {nm : Str} (h : clsB K C fI nm = true) : RC K C nm ∧ PySem.W.findIn K (.ref C) "word" = some none ∧ PySem.W.findIn K (.ref C) "__init__" = some (some (.ref fI)) ∧ PySem.W.typeIn K (.ref fI) = some (.type "function") := by
  obtain ⟨h0, h⟩ := ba h
  obtain ⟨h1, h⟩ := ba h
  obtain ⟨h2, h⟩ := ba h
  obtain ⟨h3, h⟩ := ba h
  obtain ⟨h4, h⟩ := ba h
  obtain ⟨h5, h⟩ := ba h
  obtain ⟨h6, h⟩ := ba h
  obtain ⟨h7, h⟩ := ba h
  obtain ⟨h8, h⟩ := ba h
  obtain ⟨h9, h⟩ := ba h
  obtain ⟨h10, h⟩ := ba h
  obtain ⟨h11, h⟩ := ba h
  obtain ⟨h12, h⟩ := ba h
  obtain ⟨h13, h⟩ := ba h
  obtain ⟨h14, h⟩ := ba h
  obtain ⟨h15, h16⟩ := ba h
  have fn : PySem.W.findCls K (.ref C) (.type "type") "__name__" = some (.get (.builtin "getset_descriptor.__get__") (.builtin "type.__name__") (.ref C) (.type "type")) := by
    revert h13
    split
    · rename_i g n c t e
      intro z
      obtain ⟨z1, z⟩ := ba z
      obtain ⟨z2, z⟩ := ba z
      obtain ⟨z3, z4⟩ := ba z
      rw [e, of_decide_eq_true z1, of_decide_eq_true z2, of_decide_eq_true z3, of_decide_eq_true z4]
    · intro z
      cases z
  revert h0
  split
  · rename_i c dd cd sl e
    intro z
    obtain ⟨z1, z⟩ := ba z
    obtain ⟨z2, z⟩ := ba z
    obtain ⟨z3, z⟩ := ba z
    obtain ⟨z4, z5⟩ := ba z
    have c1 : c = "type" := of_decide_eq_true z1
    subst c1
    obtain ⟨cn, cb, cm, cns, cq, chd, csn, csub, cab, ccol, cdel⟩ := cd
    revert z2
    split
    · rename_i a bm em
      intro z2
      obtain ⟨y1, y2⟩ := ba z2
      have y1' := of_decide_eq_true y1
      have em' : cm = .ref a :: bm := em
      subst em'
      subst y1'
      revert z5
      split
      · rename_i s0 s1 x t s3 n s5 es
        intro z5
        obtain ⟨x1, x2⟩ := ba z5
        have x1' := of_decide_eq_true x1
        have x2' := of_decide_eq_true x2
        subst x1' x2'
        have esl : sl = #[s0, s1, some (.str x t), s3, some (.builtin "ValueError.__new__"), s5] := by
          rw [← es]
        have d1 : chd = true := z3
        have d2 : cdel = false := by
          have z4' : (!cdel) = true := z4
          cases cdel with
          | true => cases z4'
          | false => rfl
        subst d1 d2 esl
        exact ⟨⟨⟨⟨_, _, _, _, _, _, _, _, _, _, _, _, _, _, _, e, y2⟩, eqO_ok h1, of_decide_eq_true h2, of_decide_eq_true h3, h4⟩, ⟨eqO_ok h5, eqO_ok h6, of_decide_eq_true h2, h7, eqO_ok h8, eqO_ok h9, of_decide_eq_true h10, of_decide_eq_true h11⟩, h12, fn, ⟨_, _, _, t, e, rfl⟩⟩, eqO_ok h14, eqO_ok h15, of_decide_eq_true h16⟩
      · intro z5
        cases z5
    · intro z2
      cases z2
  · intro z
    cases z
/-- by which clause -/
def catchB (K : PySem.W.Frag) (c : Fin 14 → Addr) (C : Addr) (j : Nat) : Bool := xfB K C && (((hcs c).take j).all (fun cs => decide (PySem.W.exmAny K (.ref C) cs = some false)) && (match (hcs c)[j]? with
  | some cs => decide (PySem.W.exmAny K (.ref C) cs = some true)
  | none => false))
theorem catchB_ok {K : PySem.W.Frag} {c : Fin 14 → Addr} {C : Addr} {j : Nat} (h : catchB K c C j = true) : Catch K c C j := by
  obtain ⟨h1, h⟩ := ba h
  obtain ⟨h2, h3⟩ := ba h
  refine ⟨xfB_ok h1, fun i hi cs hcs => ?_, fun cs hcs => ?_⟩
  · refine of_decide_eq_true (List.all_eq_true.mp h2 cs ?_)
    refine List.mem_of_getElem? (i := i) ?_
    rw [List.getElem?_take_of_lt hi]
    exact hcs
  · rw [hcs] at h3
    exact of_decide_eq_true h3
def names12 : List Str := ["NotWhole", "TooTall", "BadTable", "BadText", "BadPage", "Stopped", "Used", "Held", "NoGuest", "NoName", "RungError", "RungMissing"]
def cOf (K : PySem.W.Frag) (i : Fin 14) : Addr := ga K (names12.getD i.val "RungError")

def fnL : List DefD := [⟨("RungError", some "__init__"), "__init__", "RungError.__init__", defArgs s_RungError___init, defBody s_RungError___init, defScope s_RungError___init, [], []⟩, ⟨("power_by", none), "power_by", "power_by", defArgs s_power_by, defBody s_power_by, defScope s_power_by, [], []⟩, ⟨("is_prime", none), "is_prime", "is_prime", defArgs s_is_prime, defBody s_is_prime, defScope s_is_prime, [], []⟩, ⟨("is_number", none), "is_number", "is_number", defArgs s_is_number, defBody s_is_number, defScope s_is_number, [], []⟩, ⟨("is_rest", none), "is_rest", "is_rest", defArgs s_is_rest, defBody s_is_rest, defScope s_is_rest, [], []⟩, ⟨("refuse_prime", none), "refuse_prime", "refuse_prime", defArgs s_refuse_prime, defBody s_refuse_prime, defScope s_refuse_prime, [], []⟩, ⟨("refuse_rest", none), "refuse_rest", "refuse_rest", defArgs s_refuse_rest, defBody s_refuse_rest, defScope s_refuse_rest, [], []⟩, ⟨("rest_power", none), "rest_power", "rest_power", defArgs s_rest_power, defBody s_rest_power, defScope s_rest_power, [], []⟩, ⟨("undone", none), "undone", "undone", defArgs s_undone, defBody s_undone, defScope s_undone, [], [("prime", .int 2)]⟩, ⟨("powered", none), "powered", "powered", defArgs s_powered, defBody s_powered, defScope s_powered, [], [("prime", .int 2)]⟩, ⟨("_law_begin", none), "_law_begin", "_law_begin", defArgs s_law_begin, defBody s_law_begin, defScope s_law_begin, [], []⟩, ⟨("_law_take", none), "_law_take", "_law_take", defArgs s_law_take, defBody s_law_take, defScope s_law_take, [], []⟩, ⟨("_law_of", none), "_law_of", "_law_of", defArgs s_law_of, defBody s_law_of, defScope s_law_of, [], []⟩, ⟨("_law_same", none), "_law_same", "_law_same", defArgs s_law_same, defBody s_law_same, defScope s_law_same, [], []⟩, ⟨("_law_why", none), "_law_why", "_law_why", defArgs s_law_why, defBody s_law_why, defScope s_law_why, [], []⟩, ⟨("_law_word", none), "_law_word", "_law_word", defArgs s_law_word, defBody s_law_word, defScope s_law_word, [], []⟩, ⟨("_law_primes", none), "_law_primes", "_law_primes", defArgs s_law_primes, defBody s_law_primes, defScope s_law_primes, [], []⟩, ⟨("_law_any_prime", none), "_law_any_prime", "_law_any_prime", defArgs s_law_any_prime, defBody s_law_any_prime, defScope s_law_any_prime, [], []⟩, ⟨("_law_bad_prime", none), "_law_bad_prime", "_law_bad_prime", defArgs s_law_bad_prime, defBody s_law_bad_prime, defScope s_law_bad_prime, [], []⟩, ⟨("_law_far", none), "_law_far", "_law_far", defArgs s_law_far, defBody s_law_far, defScope s_law_far, [], []⟩, ⟨("_law_back", none), "_law_back", "_law_back", defArgs s_law_back, defBody s_law_back, defScope s_law_back, [], []⟩, ⟨("_law_raised", none), "_law_raised", "_law_raised", defArgs s_law_raised, defBody s_law_raised, defScope s_law_raised, [], []⟩, ⟨("law", none), "law", "law", defArgs s_law, defBody s_law, defScope s_law, [], []⟩]
def faL : List Fa := [.glo "RungError", .glo "BadPrime", .glo "BadRest", .glo "BadTable", .glo "NotWhole", .glo "NoInverse", .glo "TooTall", .glo "BadText", .glo "Used", .glo "Held", .glo "BadPage", .glo "Stopped", .glo "RungMissing", .glo "NoGuest", .glo "NoName", .glo "PRIMES", .glo "power_by", .glo "is_prime", .glo "is_number", .glo "is_rest", .glo "refuse_prime", .glo "refuse_rest", .glo "rest_power", .glo "undone", .glo "powered", .glo "_law_begin", .glo "_law_take", .glo "_law_of", .glo "_law_same", .glo "_law_why", .glo "_law_word", .glo "_law_primes", .glo "_law_any_prime", .glo "_law_bad_prime", .glo "_law_far", .glo "_law_back", .glo "_law_raised", .glo "law", .int "LEAST" 2, .free "len", .free "abs", .free "list", .free "tuple", .free "int", .free "bool", .free "str", .free "isinstance", .free "range", .free "all", .free "zip"]
def exL (K : PySem.W.Frag) : Bool := tupB K "PRIMES" (primes.map Dv.int) && (clsB K (ga K "BadPrime") (ma K (ga K "RungError") "__init__") "BadPrime" && (clsB K (ga K "BadRest") (ma K (ga K "RungError") "__init__") "BadRest" && (clsB K (ga K "NoInverse") (ma K (ga K "RungError") "__init__") "NoInverse" &&
  (catchB K (cOf K) (ga K "BadPrime") 7 && (catchB K (cOf K) (ga K "BadRest") 7 && (catchB K (cOf K) (ga K "NoInverse") 7 && decide ((cT K ("law", none)).2 ≠ (cT K ("rest_power", none)).2)))))))
abbrev R : PySem.W.OpenRow := PySem.W.OpenLaw.row PySem.Challenge.rw_rungfields_k01_rests_undone_and_powered
abbrev hk : PySem.W.Hook := hookZ 5 faL fnL [("law", none), ("rest_power", none)] exL
def ob (s : PySem.W.SharedT) : AlX := obsZ 5 faL fnL [("law", none), ("rest_power", none)] exL (HandSHeadRun.getT s)
theorem ob_eq (s : PySem.W.SharedT) : ob s = hk.obs s.abs := obsZ_eq (HandSHeadRun.getT_eq s)
def loL : List Str := (["RungError", "BadPrime", "BadRest", "BadTable", "NotWhole", "NoInverse", "TooTall", "BadText", "Used", "Held"] : List Str) ++ (["BadPage", "Stopped", "RungMissing", "NoGuest", "NoName", "power_by", "PRIMES", "LEAST", "is_prime", "is_number"] : List Str) ++ (["is_rest", "refuse_prime", "refuse_rest", "rest_power", "undone", "powered", "_law_begin", "_law_take", "_law_of", "_law_same"] : List Str) ++ (["_law_why", "_law_word", "_law_primes", "_law_any_prime", "_law_bad_prime", "_law_far", "_law_back", "_law_raised"] : List Str)
theorem run (w : World) : HandSHeadRun.RunEq R (PySem.W.view R.prog [42]) hk ob 6000 loL w := by
  intro os
  kernel_rfl
end Xk
end
section
set_option Elab.async false
set_option linter.all false
set_option maxRecDepth 100000
set_option maxHeartbeats 4000000
namespace Xk
open PySem PySem.Spec PyProof.Rows L2 Xh LamX He
section
variable {P : Program} {w : World} {K : PySem.W.Frag} {mg : Str → Option Value} {base : Heap}
theorem o_init0 {f : Addr} {fd : FuncData} (F : FunD K "__init__" "RungError.__init__" (defArgs s_RungError___init) (defBody s_RungError___init) (defScope s_RungError___init) [] [] f fd) : FnR P w K mg base (L2.CX P w) 1 f (spRI1 K) :=
  ok_rinit (st := s_RungError___init) F sc_RungError___init (fun kV doc pm an cdv ct => StX.bind_star1 (p1 := "self") (pv := "told") (B := fun vs => bindArgs (PySem.W.fnOf "__init__" "RungError.__init__" (defArgs s_RungError___init) (defBody s_RungError___init) (defScope s_RungError___init) .none kV doc pm an cdv ct) ⟨vs, []⟩) (fun a => rfl) (fun a r rs => rfl))
    (fun X hK hN hs => by
      subst hK
      have hN0 : X.N[0]? = some ("self" : Str) := by rw [hN]; rfl
      have hv0 : Vis X.env.scope ("self" : Str) := by rw [hs]; first | exact Or.inl rfl | exact Or.inr (Or.inl rfl) | exact Or.inr (Or.inr rfl)
      exact pss_one (ps_ost (pv 0 hN0 hv0) (pe_clsnm (pv 0 hN0 hv0))))
theorem code_of {x q : Str} {params : Arguments} {body : List Stmt} {scope : Scope} {dvs : List V} {kws : List (Str × V)} {p : Defn} {fd : FuncData} (F : FunD K x q params body scope dvs kws (fAd K p) fd) : fd.code = .ref (cT K p).1 := by
  obtain ⟨oc, od, dV, kV, doc, pm, an, cdv, ct, osl, rfl, lk, hcd, hD, _⟩ := F.ex
  obtain ⟨c, rfl⟩ := codeIn_ref hcd
  show Value.ref c = .ref (codeOf K p)
  rw [codeOf_eq lk rfl]
theorem lit_tup (H : Hp) (h : tupB K "PRIMES" (primes.map Dv.int) = true) : SqT K H (ga K "PRIMES") (primes.map V.int) := by
  have z := tupB_ok h H
  rw [List.map_map] at z
  exact z
def kOf (K : PySem.W.Frag) (i : Fin 14) : Addr := ga K ((["BadPrime", "BadRest", "NoInverse"] : List Str).getD i.val "BadPrime")
theorem facts {h : Heap} {f : Addr} (X : K.In h) (G : h.Ns mainGlobals mg) (hfa : mg ("law" : Str) = some (.ref f)) (c : SaysX faL fnL [] [("law", none), ("rest_power", none)] exL w h K) :
    ∃ fd : FuncData, (∀ (s : Shared) (v : Value), BindsTo s fd ⟨[v], []⟩ [("_law_script", v)]) ∧ ∀ base : Heap, TabB base mg (cT K ("law", none)).1 (cT K ("law", none)).2 → TabB base mg (cT K ("rest_power", none)).1 (cT K ("rest_power", none)).2 → FnOk P w K mg base CX0 9 f fd ["_law_script"] (spLaw K (cT K ("law", none)).2 (cT K ("rest_power", none)).2) := by
  obtain ⟨e0, e⟩ := ba c.more
  obtain ⟨e1, e⟩ := ba e
  obtain ⟨e2, e⟩ := ba e
  obtain ⟨e3, e⟩ := ba e
  obtain ⟨e4, e⟩ := ba e
  obtain ⟨e5, e⟩ := ba e
  obtain ⟨e6, e7⟩ := ba e
  have hne := of_decide_eq_true e7
  obtain ⟨r1, w1, i1, t1⟩ := clsB_ok e1
  obtain ⟨r2, w2, i2, t2⟩ := clsB_ok e2
  obtain ⟨r3, w3, i3, t3⟩ := clsB_ok e3
  obtain ⟨fdinit, Finit⟩ := c.t.d.def_ 0 (d := fnL[0]) rfl
  obtain ⟨fdpower_by, Fpower_by⟩ := c.t.d.def_ 1 (d := fnL[1]) rfl
  obtain ⟨fdis_prime, Fis_prime⟩ := c.t.d.def_ 2 (d := fnL[2]) rfl
  obtain ⟨fdis_number, Fis_number⟩ := c.t.d.def_ 3 (d := fnL[3]) rfl
  obtain ⟨fdis_rest, Fis_rest⟩ := c.t.d.def_ 4 (d := fnL[4]) rfl
  obtain ⟨fdrefuse_prime, Frefuse_prime⟩ := c.t.d.def_ 5 (d := fnL[5]) rfl
  obtain ⟨fdrefuse_rest, Frefuse_rest⟩ := c.t.d.def_ 6 (d := fnL[6]) rfl
  obtain ⟨fdrest_power, Frest_power⟩ := c.t.d.def_ 7 (d := fnL[7]) rfl
  obtain ⟨fdundone, Fundone⟩ := c.t.d.def_ 8 (d := fnL[8]) rfl
  obtain ⟨fdpowered, Fpowered⟩ := c.t.d.def_ 9 (d := fnL[9]) rfl
  obtain ⟨fdlaw_begin, Flaw_begin⟩ := c.t.d.def_ 10 (d := fnL[10]) rfl
  obtain ⟨fdlaw_take, Flaw_take⟩ := c.t.d.def_ 11 (d := fnL[11]) rfl
  obtain ⟨fdlaw_of, Flaw_of⟩ := c.t.d.def_ 12 (d := fnL[12]) rfl
  obtain ⟨fdlaw_same, Flaw_same⟩ := c.t.d.def_ 13 (d := fnL[13]) rfl
  obtain ⟨fdlaw_why, Flaw_why⟩ := c.t.d.def_ 14 (d := fnL[14]) rfl
  obtain ⟨fdlaw_word, Flaw_word⟩ := c.t.d.def_ 15 (d := fnL[15]) rfl
  obtain ⟨fdlaw_primes, Flaw_primes⟩ := c.t.d.def_ 16 (d := fnL[16]) rfl
  obtain ⟨fdlaw_any_prime, Flaw_any_prime⟩ := c.t.d.def_ 17 (d := fnL[17]) rfl
  obtain ⟨fdlaw_bad_prime, Flaw_bad_prime⟩ := c.t.d.def_ 18 (d := fnL[18]) rfl
  obtain ⟨fdlaw_far, Flaw_far⟩ := c.t.d.def_ 19 (d := fnL[19]) rfl
  obtain ⟨fdlaw_back, Flaw_back⟩ := c.t.d.def_ 20 (d := fnL[20]) rfl
  obtain ⟨fdlaw_raised, Flaw_raised⟩ := c.t.d.def_ 21 (d := fnL[21]) rfl
  obtain ⟨fdlaw, Flaw⟩ := c.t.d.def_ 22 (d := fnL[22]) rfl
  have e := hfa.symm.trans (glo_ok X G (c.t.d.fact 37 (f := .glo "law") rfl))
  cases e
  have b := FunD.bindsA (ps := ["_law_script"]) Flaw fun _ _ _ _ _ _ us hl => match us, hl with | [_], _ => rfl
  have T : Fre mg := ⟨free_ok X G (c.t.d.fact 39 (f := .free "len") rfl), free_ok X G (c.t.d.fact 40 (f := .free "abs") rfl), free_ok X G (c.t.d.fact 41 (f := .free "list") rfl), free_ok X G (c.t.d.fact 42 (f := .free "tuple") rfl), free_ok X G (c.t.d.fact 43 (f := .free "int") rfl), free_ok X G (c.t.d.fact 44 (f := .free "bool") rfl), free_ok X G (c.t.d.fact 45 (f := .free "str") rfl), free_ok X G (c.t.d.fact 46 (f := .free "isinstance") rfl), free_ok X G (c.t.d.fact 47 (f := .free "range") rfl), free_ok X G (c.t.d.fact 48 (f := .free "all") rfl), free_ok X G (c.t.d.fact 49 (f := .free "zip") rfl)⟩
  have M8 : Cls8 mg (cOf K) := ⟨glo_ok X G (c.t.d.fact 4 (f := .glo "NotWhole") rfl), glo_ok X G (c.t.d.fact 6 (f := .glo "TooTall") rfl), glo_ok X G (c.t.d.fact 3 (f := .glo "BadTable") rfl), glo_ok X G (c.t.d.fact 7 (f := .glo "BadText") rfl), glo_ok X G (c.t.d.fact 10 (f := .glo "BadPage") rfl), glo_ok X G (c.t.d.fact 11 (f := .glo "Stopped") rfl), glo_ok X G (c.t.d.fact 8 (f := .glo "Used") rfl), glo_ok X G (c.t.d.fact 9 (f := .glo "Held") rfl), glo_ok X G (c.t.d.fact 13 (f := .glo "NoGuest") rfl), glo_ok X G (c.t.d.fact 14 (f := .glo "NoName") rfl), glo_ok X G (c.t.d.fact 0 (f := .glo "RungError") rfl), glo_ok X G (c.t.d.fact 12 (f := .glo "RungMissing") rfl)⟩
  have KK : Kinds K (cOf K) (kOf K) := ⟨catchB_ok e4, catchB_ok e5, catchB_ok e6, w1, w2, w3⟩
  have x1 : RX K mg (kOf K 0) (ma K (ga K "RungError") "__init__") "BadPrime" := ⟨r1, w1, i1, t1, glo_ok X G (c.t.d.fact 1 (f := .glo "BadPrime") rfl)⟩
  have x2 : RX K mg (kOf K 1) (ma K (ga K "RungError") "__init__") "BadRest" := ⟨r2, w2, i2, t2, glo_ok X G (c.t.d.fact 2 (f := .glo "BadRest") rfl)⟩
  have x3 : RX K mg (kOf K 2) (ma K (ga K "RungError") "__init__") "NoInverse" := ⟨r3, w3, i3, t3, glo_ok X G (c.t.d.fact 5 (f := .glo "NoInverse") rfl)⟩
  have mP : mg "PRIMES" = some (.ref (ga K "PRIMES")) := glo_ok X G (c.t.d.fact 15 (f := .glo "PRIMES") rfl)
  have hP : ∀ H, SqT K H (ga K "PRIMES") (primes.map V.int) := fun H => lit_tup H e0
  have mL : ∃ t, mg "LEAST" = some (.int 2 t) := int_ok X G (c.t.d.fact 38 (f := .int "LEAST" 2) rfl)
  refine ⟨fdlaw, fun s v => b s [v] rfl, fun base TB TB2 => ?_⟩
  have hu2 : ∀ p ∈ TL (cT K ("law", none)).2 (cT K ("rest_power", none)).2, p.1 = (cT K ("rest_power", none)).2 → p.2 = rpQ := fun p hp e => by
    rcases List.mem_cons.mp hp with rfl | hp
    · exact absurd e hne
    · rw [List.mem_singleton.mp hp]
  have o_init : FnR P w K mg base (L2.CX P w) 1 (ma K (ga K "RungError") "__init__") (spRI1 K) := o_init0 Finit
  have o_law_begin : Own P w K mg base CX0 1 "_law_begin" ["_law_script"] [] (spBegin K) := own_of Flaw_begin (ok_begin Flaw_begin T) (glo_ok X G (c.t.d.fact 25 (f := .glo "_law_begin") rfl)) (fun _ _ _ _ _ _ us hl => match us, hl with | [_], _ => rfl)
  have o_law_take : Own P w K mg base CX0 1 "_law_take" ["_law_draw", "_law_sides"] [] spTake := own_of Flaw_take (ok_take Flaw_take T) (glo_ok X G (c.t.d.fact 26 (f := .glo "_law_take") rfl)) (fun _ _ _ _ _ _ us hl => match us, hl with | [_, _], _ => rfl)
  have o_law_of : Own P w K mg base CX0 2 "_law_of" ["_law_draw", "_law_row"] [] (spOf K) := own_of Flaw_of (ok_of Flaw_of T o_law_take) (glo_ok X G (c.t.d.fact 27 (f := .glo "_law_of") rfl)) (fun _ _ _ _ _ _ us hl => match us, hl with | [_, _], _ => rfl)
  have o_law_primes : Own P w K mg base CX0 1 "_law_primes" [] [] spPrimes := own_of Flaw_primes (ok_primes Flaw_primes) (glo_ok X G (c.t.d.fact 31 (f := .glo "_law_primes") rfl)) (fun _ _ _ _ _ _ us hl => match us, hl with | [], _ => rfl)
  have o_law_any_prime : Own P w K mg base CX0 3 "_law_any_prime" ["_law_draw"] [] spAnyPrime := own_of Flaw_any_prime (ok_any_prime Flaw_any_prime o_law_of o_law_primes) (glo_ok X G (c.t.d.fact 32 (f := .glo "_law_any_prime") rfl)) (fun _ _ _ _ _ _ us hl => match us, hl with | [_], _ => rfl)
  have o_law_bad_prime : Own P w K mg base CX0 3 "_law_bad_prime" ["_law_draw"] [] spBad := own_of Flaw_bad_prime (ok_bad Flaw_bad_prime o_law_take o_law_of) (glo_ok X G (c.t.d.fact 33 (f := .glo "_law_bad_prime") rfl)) (fun _ _ _ _ _ _ us hl => match us, hl with | [_], _ => rfl)
  have o_law_far : Own P w K mg base CX0 3 "_law_far" ["_law_draw", "_law_p"] [] spFar := own_of Flaw_far (ok_far Flaw_far o_law_take o_law_of) (glo_ok X G (c.t.d.fact 34 (f := .glo "_law_far") rfl)) (fun _ _ _ _ _ _ us hl => match us, hl with | [_, _], _ => rfl)
  have o_law_back : Own P w K mg base CX0 1 "_law_back" ["_law_number", "_law_p"] [] spBack := own_of Flaw_back (ok_back Flaw_back T) (glo_ok X G (c.t.d.fact 35 (f := .glo "_law_back") rfl)) (fun _ _ _ _ _ _ us hl => match us, hl with | [_, _], _ => rfl)
  have o_law_raised : Own P w K mg base CX0 1 "_law_raised" ["_law_number", "_law_exponent", "_law_p"] [] spRPow := own_of Flaw_raised (ok_raised Flaw_raised T) (glo_ok X G (c.t.d.fact 36 (f := .glo "_law_raised") rfl)) (fun _ _ _ _ _ _ us hl => match us, hl with | [_, _, _], _ => rfl)
  have o_law_same : Own P w K mg base CX0 2 "_law_same" ["_law_found", "_law_due"] [] (spS K 2) := own_of Flaw_same (ok_same Flaw_same T (glo_ok X G (c.t.d.fact 28 (f := .glo "_law_same") rfl)) 2) (glo_ok X G (c.t.d.fact 28 (f := .glo "_law_same") rfl)) (fun _ _ _ _ _ _ us hl => match us, hl with | [_, _], _ => rfl)
  have o_is_prime : Own P w K mg base CX0 1 "is_prime" ["number"] [] spIsPrime := own_of Fis_prime (ok_is_prime Fis_prime mP hP) (glo_ok X G (c.t.d.fact 17 (f := .glo "is_prime") rfl)) (fun _ _ _ _ _ _ us hl => match us, hl with | [_], _ => rfl)
  have o_is_number : Own P w K mg base CX0 1 "is_number" ["told"] [] spIsNum := own_of Fis_number (ok_is_number Fis_number T) (glo_ok X G (c.t.d.fact 18 (f := .glo "is_number") rfl)) (fun _ _ _ _ _ _ us hl => match us, hl with | [_], _ => rfl)
  have o_is_rest : Own P w K mg base CX0 2 "is_rest" ["told", "prime"] [] spIsRest := own_of Fis_rest (ok_is_rest Fis_rest o_is_number) (glo_ok X G (c.t.d.fact 19 (f := .glo "is_rest") rfl)) (fun _ _ _ _ _ _ us hl => match us, hl with | [_, _], _ => rfl)
  have G_power_by : GivesV P w K mg base 2 1 "power_by" (ga K "power_by") TTpow := ok_power_by Fpower_by (glo_ok X G (c.t.d.fact 16 (f := .glo "power_by") rfl))
  have o_rest_power : Own P w K mg base CX0 3 "rest_power" ["rest", "exponent", "prime"] [] (spRPowT (TL (cT K ("law", none)).2 (cT K ("rest_power", none)).2)) := own_of Frest_power (ok_rest_power Frest_power (code_of (p := ("rest_power", none)) Frest_power) TB2 (List.mem_cons_of_mem _ (List.mem_singleton.mpr rfl)) hu2 G_power_by) (glo_ok X G (c.t.d.fact 22 (f := .glo "rest_power") rfl)) (fun _ _ _ _ _ _ us hl => match us, hl with | [_, _, _], _ => rfl)
  have o_refuse_prime : Own P w K mg base (L2.CX P w) 3 "refuse_prime" ["prime"] [] (spRefP (kOf K 0)) := own_of Frefuse_prime (ok_refuse_prime Frefuse_prime o_is_prime x1 o_init) (glo_ok X G (c.t.d.fact 20 (f := .glo "refuse_prime") rfl)) (fun _ _ _ _ _ _ us hl => match us, hl with | [_], _ => rfl)
  have o_refuse_rest : Own P w K mg base (L2.CX P w) 3 "refuse_rest" ["number", "prime"] [] (spRefR (kOf K 1)) := own_of Frefuse_rest (ok_refuse_rest Frefuse_rest o_is_rest x2 o_init) (glo_ok X G (c.t.d.fact 21 (f := .glo "refuse_rest") rfl)) (fun _ _ _ _ _ _ us hl => match us, hl with | [_, _], _ => rfl)
  have G4 : FnOk P w K mg base (L2.CX P w) 4 (ga K "powered") fdpowered ["number", "exponent", "prime"] (spPow (TL (cT K ("law", none)).2 (cT K ("rest_power", none)).2) (kOf K)) := ok_powered Fpowered o_refuse_prime o_refuse_rest o_rest_power x3 o_init
  have k_powered : OwnK P w K mg base (L2.CX P w) 4 2 "powered" ["number", "exponent", "prime"] ["prime"] (spPow (TL (cT K ("law", none)).2 (cT K ("rest_power", none)).2) (kOf K)) := own_ofK Fpowered G4 (glo_ok X G (c.t.d.fact 24 (f := .glo "powered") rfl)) (fun _ _ _ _ _ _ us ws hl hk => match us, hl, ws, hk with | [_, _], _, [_], _ => rfl)
  have o_powered : Own P w K mg base (L2.CX P w) 4 "powered" ["number", "exponent", "prime"] [.int 2] (spPow (TL (cT K ("law", none)).2 (cT K ("rest_power", none)).2) (kOf K)) := own_of0 Fpowered G4 (glo_ok X G (c.t.d.fact 24 (f := .glo "powered") rfl)) 2 (by intro z; cases z) rfl (fun D _ _ _ _ _ us ks hl hk => match us, hl, ks, hk with | [_, _], _, [_], _ => ⟨_, _, _, _, _, _, rfl, rfl, rfl⟩)
  have G5 : FnOk P w K mg base (L2.CX P w) 5 (ga K "undone") fdundone ["number", "prime"] (spUndone (TL (cT K ("law", none)).2 (cT K ("rest_power", none)).2) (kOf K)) := ok_undone Fundone k_powered
  have k_undone : OwnK P w K mg base (L2.CX P w) 5 1 "undone" ["number", "prime"] ["prime"] (spUndone (TL (cT K ("law", none)).2 (cT K ("rest_power", none)).2) (kOf K)) := own_ofK Fundone G5 (glo_ok X G (c.t.d.fact 23 (f := .glo "undone") rfl)) (fun _ _ _ _ _ _ us ws hl hk => match us, hl, ws, hk with | [_], _, [_], _ => rfl)
  have o_undone : Own P w K mg base (L2.CX P w) 5 "undone" ["number", "prime"] [.int 2] (spUndone (TL (cT K ("law", none)).2 (cT K ("rest_power", none)).2) (kOf K)) := own_of0 Fundone G5 (glo_ok X G (c.t.d.fact 23 (f := .glo "undone") rfl)) 1 (by intro z; cases z) rfl (fun D _ _ _ _ _ us ks hl hk => match us, hl, ks, hk with | [_], _, [_], _ => ⟨_, _, _, _, _, _, rfl, rfl, rfl⟩)
  have G_law_why : Gives P w K mg base 7 5 "_law_why" (ga K "_law_why") (TTwhy K (cOf K)) := ok_why Flaw_why (glo_ok X G (c.t.d.fact 29 (f := .glo "_law_why") rfl)) M8
  have G_law_word : Gives P w K mg base 8 5 "_law_word" (ga K "_law_word") (TTword K (cOf K)) := ok_word Flaw_word (glo_ok X G (c.t.d.fact 30 (f := .glo "_law_word") rfl)) G_law_why
  exact ok_law Flaw (code_of (p := ("law", none)) Flaw) TB T hne KK o_law_begin o_law_take o_law_of o_law_primes o_law_any_prime o_law_bad_prime o_law_far o_law_back o_law_raised o_law_same o_is_prime G_law_why G_law_word k_undone o_undone k_powered o_powered mP hP mL
end
end Xk
end
set_option Elab.async false
set_option linter.all false
set_option maxRecDepth 100000
set_option maxHeartbeats 0
open PySem PySem.W PySem.Calls PyProof.Rows
theorem PySem.Challenge.cw_rungfields_k01_rests_undone_and_powered_holds : PySem.Challenge.rw_rungfields_k01_rests_undone_and_powered.Holds := by
  w_on; o_law
  refine HandSHeadRun.head_any (r := OpenLaw.row PySem.Challenge.rw_rungfields_k01_rests_undone_and_powered) (q := view (OpenLaw.row PySem.Challenge.rw_rungfields_k01_rests_undone_and_powered).prog [42]) (H := Xk.hk) (ob := Xk.ob) (M := 6000) (loose := Xk.loL) (d := HandSHeadRun.topDef (OpenLaw.row PySem.Challenge.rw_rungfields_k01_rests_undone_and_powered).prog 42) (kwd := []) Xk.ob_eq
    (by kernel_rfl) (fun s => by kernel_rfl) Xk.run (by kernel_rfl) (by kernel_rfl) (by kernel_rfl) (by rfl) (by first | assumption | decide +kernel) (by decide +kernel) ⟨rfl, rfl, rfl, rfl, rfl, by decide +kernel⟩ ?hw ?hc
  case hw => w_witness2
  case hc =>
    refine LamX.walk_ofTsE (l := PySem.Challenge.rw_rungfields_k01_rests_undone_and_powered) (n := 63) (k := 9) (x := "_law_script") (CX := fun _ => L2.CX0) rfl (by decide) (by kernel_rfl) ⟨rfl, by decide, by decide⟩ ?F (fun _ _ _ _ _ z => z)
    intro w mg fa h Y G hmg0
    obtain ⟨K, KX, c⟩ := Y
    have hmg : mg ("law" : PySem.Str) = some (.ref fa) := by
      have e : (HandSHeadRun.topDef (OpenLaw.row PySem.Challenge.rw_rungfields_k01_rests_undone_and_powered).prog 42).name = ("law" : PySem.Str) := by kernel_rfl
      rw [← e]
      exact hmg0
    obtain ⟨fd, hb, hF⟩ := Xk.facts (P := (PySem.Challenge.rw_rungfields_k01_rests_undone_and_powered).prog) (w := w) KX G hmg c
    have m1 : (("law", none) : He.Defn) ∈ ([("law", none), ("rest_power", none)] : List He.Defn) := List.mem_cons_self
    have m2 : (("rest_power", none) : He.Defn) ∈ ([("law", none), ("rest_power", none)] : List He.Defn) := List.mem_cons_of_mem _ (List.mem_singleton.mpr rfl)
    refine ⟨K, KX, fd, [He.cT K ("law", none), He.cT K ("rest_power", none)], Xk.spLaw K (He.cT K ("law", none)).2 (He.cT K ("rest_power", none)).2, ?_, ?_, ?_, hb, ?_, ?_⟩
    · intro p hp
      rcases List.mem_cons.mp hp with rfl | hp
      · exact c.empty _ m1
      · rw [List.mem_singleton.mp hp]
        exact c.empty _ m2
    · intro p hp
      rcases List.mem_cons.mp hp with rfl | hp
      · exact c.out _ m1
      · rw [List.mem_singleton.mp hp]
        exact c.out _ m2
    · intro p hp
      rcases List.mem_cons.mp hp with rfl | hp
      · exact PySem.W.codeHd_of_K KX (c.hd _ m1)
      · rw [List.mem_singleton.mp hp]
        exact PySem.W.codeHd_of_K KX (c.hd _ m2)
    · intro H a ns hl _ hT hS
      refine ⟨a, ns, rfl, hS, fun p hp => ?_, fun _ => rfl⟩
      rcases List.mem_cons.mp hp with rfl | hp
      · exact LamX.TabS.nil (hT _ List.mem_cons_self)
      · rw [List.mem_singleton.mp hp]
        exact LamX.TabS.nil (hT _ (List.mem_cons_of_mem _ (List.mem_singleton.mpr rfl)))
    · intro base _ _ hTB
      exact hF base (hTB _ List.mem_cons_self) (hTB _ (List.mem_cons_of_mem _ (List.mem_singleton.mpr rfl)))
