import PyProof.Rows.All
import Wide.All
import OpenK.AllK
import Wide.FinOn
import KE.KTypeName
import KE.KTryMore
import HandS.ForMost
import HandS.ForExc
import HandS.ExcInit
import HandS.ExcIs
import HandS.ExcField
import HandS.Star
import HandS.Defaults
import HandS.TryMany
import HandS.Lambda
import HandS.EndTab
import HandS.IsInst
import HandS.Wide
import HandS.WideMore
import HandS.Codes
import HandS.Flow
import HandS.Zip
import HandS.Walk
import HandS.Iter
import KE.GoesEnum
import PySem.Challenge.RW_rungfields_k53_formulas_written
import HandS.Nested
import HandS.Text
import HandS.FStr
import HandS.StrMore
import HandS.Conv
import HandS.MakeKw
import HandS.More
import HandS.ClsMeth
import HandS.TryOnly
import PyProof.ListStr
import PyProof.StrOps2
import PyProof.Rows.StrOver
import HandS.Deep
import HandS.RaiseMore
import HandS.Dict
import HandS.HeadHook3
import HandS.Steps
import HandS.Head0
import HandS.Head1
import HandS.Head2
import HandS.HeadHook1
import HandS.HeadHook2
import HandS.HeadHook4
import HandS.HeadWalk
import HandS.HeadEnd
section
set_option Elab.async false
set_option linter.all false
set_option maxRecDepth 100000
set_option maxHeartbeats 2000000
/-! An own exception in the making: `self.__class__.__name__`. -/
namespace Xh
open PySem PySem.W PySem.Calls PyProof.Rows PySem.HandSPX Builtin Builtin.ObjectAttr Builtin.Getset_descriptor
section
variable {prog : Program} {w : World} {A : Around} {E : Value → Shared → Prop} {R : Result → Shared → Prop} {s : Shared} {K : Frag} {x D : Addr} {ox : Obj}
/-- x.__class__ of an exception without a dict of its own as yet -/
theorem exc_class {expr : Bool} {Q : Value → Shared → Prop} (hga : findIn K (.ref D) "__getattribute__" = some (some (.builtin "BaseException.__getattribute__"))) (hgt : findIn K (.ref D) "__getattr__" = some none) (hsub : subIn K (.ref D) (.type "BaseException") = some true)
    (hdct : hasDictIn K D = true) (ha : findIn K (.ref D) "__class__" = some (some (.builtin "object.__class__")))
    (hn : specialIn K (.builtin "object.__class__") "__get__" = some (some (.builtin "getset_descriptor.__get__"))) (htk : takesIn K (.builtin "object.__class__") = some true) (hm : mroIn K D (.type "object") = some true)
    (X : K.In s.heap) (I : InstAt s.heap x ox D none) (h : Q (.ref D) { s with toks := s.toks + 1 }) : wpAny (model prog w) A (getAttr (.ref x) "__class__" expr) Q E s := by
  have hf : findObj K D none "__class__" = some (.bind (.builtin "getset_descriptor.__get__") (.builtin "object.__class__")) := findObj_dataN (by obtain ⟨cd, hc, _⟩ := any_some hdct; rw [hc]; rfl) ha hn htk
  obtain ⟨hp, g, d, t, os⟩ := s
  have L0 := I.type (M := model prog w)
  have L1 := looks_findIn (M := model prog w) X hga
  have L2 := looks_findIn (M := model prog w) X hgt
  have L3 := looks_find (M := model prog w) X I hf
  have sub : Looks (model prog w) hp (isInstance (.ref x) (.type "BaseException")) true := L0.andThen (looks_subIn X hsub)
  have hx0 : (expr && onTheHeap (Value.builtin "BaseException.__getattribute__")) = false := by cases expr <;> rfl
  have hx2 : (Value.builtin "BaseException.__getattribute__" == Value.builtin "object.__getattribute__") = false := by decide +kernel
  have hx1 : (onTheHeap (Value.ref D) && Value.builtin "BaseException.__getattribute__" == Value.builtin "object.__getattribute__") = false := by rw [hx2]; rfl
  unfold getAttr getAttrBy
  refine wpAny_bind (wpAny_mkText (wpAny_holding (wpAny_bind (L0.at (wpAny_bind (L1.at ?_))))))
  show wpAny _ _ (if (onTheHeap (Value.ref D) && Value.builtin "BaseException.__getattribute__" == Value.builtin "object.__getattribute__") = true then _ else _) _ _ _
  rw [hx1, if_neg Bool.false_ne_true]
  unfold getAttrByItsOwn hookBefore
  refine wpAny_bind ?_
  rw [if_pos (show onTheHeap (Value.ref D) = true from rfl)]
  refine L2.at ?_
  refine wpAny_bind (wpAny_attempt (wpAny_holding ?_))
  unfold callGetattribute
  rw [hx0, if_neg Bool.false_ne_true]
  unfold boundAndCalled
  rw [PySem.F.excAttr_ValueError.ga.bind (.ref x)]
  refine wpAny_bind (wpAny_pure ?_)
  show wpAny _ _ (call (.builtin "BaseException.__getattribute__") [.ref x, .str "__class__" t]) _ _ _
  refine wpAny_call (codeAny_call_builtin PySem.F.excAttr_ValueError.ga.plain PySem.F.entry_bexc_ga ?_)
  refine @check_slot (model prog w) _ _ ⟨hp, g, d, t + 1, os⟩ "BaseException.__getattribute__" "BaseException" "__getattribute__" (.ref x) [.str "__class__" t] [] _ (by decide +kernel) (by decide +kernel) sub (PySem.F.args_bexc_ga (.ref x) (.str "__class__" t)) ?_
  unfold Builtin.«object.__getattribute__»
  refine wpAny_bind (wpAny_of_eq (a := ((Value.ref x : Value), [Value.str "__class__" t])) (by first | rfl | (simp only [slotArgs]; rfl)) ?_)
  refine wpAny_bind (wpAny_pure (wpAny_bind (L0.at (wpAny_bind (L3.at ?_)))))
  show wpAny _ _ (holding [Value.builtin "object.__class__"] (call (.builtin "getset_descriptor.__get__") [.builtin "object.__class__", .ref x, .ref D]) >>= ret) _ _ _
  refine wpAny_bind (wpAny_holding (wpAny_call (class_get (s := ⟨hp, g, d, t + 1, os⟩) (ox := ox) (od := none) X I hm ?_)))
  refine wpAny_pure ?_
  show wpAny _ _ (handedOut (.ref D)) _ _ _
  rw [handedOut_of (v := .ref D) rfl]
  exact wpAny_pure h
/-- type.__name__ of an own class: what its third slot holds -/
theorem name_get {C : Addr} {tp : Value} {cd : ClassData} {dd : Option Addr} {sl : Array (Option Value)} {v : Value} (hC : K.lookup C = some ⟨.type "type", dd, .cls cd, sl⟩) (hs : (sl[2]?).join = some v) (X : K.In s.heap)
    (h : R (.ok (.ret v)) s) : codeAny (model prog w) A (.call (.builtin "getset_descriptor.__get__") ⟨[.builtin "type.__name__", .ref C, tp], []⟩) R s := by
  obtain ⟨hh, g, dr, t, os⟩ := s
  have hg := X _ _ hC
  have L0 : Looks (model prog w) hh (typeOf (.ref C)) (.type "type") := fun A Q E s k q => wpAny_typeOf_ref (k _ _ hg) q
  have L1 : Looks (model prog w) hh (isSubtype (.type "type") (.type "type")) true := Looks.of_pure (by rw [isSubtype_type]; kernel_rfl)
  refine codeAny_call_builtin KF.slot_gs.plain KF.entry_gs (KF.slot_gs.check _ _ _ _ _ _ _ _ ktyn_type (KF.args_gs _ _ _) ?_)
  unfold Builtin.«getset_descriptor.__get__» descrGet
  rw [dga_obj]
  refine wpAny_bind (wpAny_pure ?_)
  unfold descrGetter descrCheckInstance descrNameAndClass isInstance
  simp only [ktyn_owner]
  repeat lk
  refine ⟨Code.quiet_builtin _ (by decide +kernel), codeAny_builtin ktyn_entry ?_⟩
  unfold Builtin.«type.__name__»
  dsimp only
  unfold keptObject slotAt
  dsimp only
  refine wpAny_bind (wpAny_bind (wpAny_loadPart hg ?_))
  refine wpAny_pure ?_
  dsimp only
  rw [hs]
  dsimp only
  exact wpAny_pure h
/-- C.__name__, C an own class -/
theorem cls_name {C : Addr} {cd : ClassData} {dd : Option Addr} {sl : Array (Option Value)} {v : Value} {expr : Bool} {Q : Value → Shared → Prop} (hC : K.lookup C = some ⟨.type "type", dd, .cls cd, sl⟩) (hs : (sl[2]?).join = some v) (hv : handedIn v = true)
    (hr : readsIn K C (.type "type") = true) (e : findCls K (.ref C) (.type "type") "__name__" = some (.get (.builtin "getset_descriptor.__get__") (.builtin "type.__name__") (.ref C) (.type "type")))
    (X : K.In s.heap) (h : Q v { s with toks := s.toks + 1 }) : wpAny (model prog w) A (getAttr (.ref C) "__name__" expr) Q E s :=
  cls_bind X hr e (wpAny_call (name_get hC hs X (handed_on hv h)))
end
end Xh
namespace L2
open PySem PySem.Spec PyProof.Rows
/-- what the written part says of an own exception class C of the name nm -/
structure RC (K : PySem.W.Frag) (C : Addr) (nm : Str) : Prop where
  o : OexC K C
  x : ExcC K C
  rd : PySem.W.readsIn K C (.type "type") = true
  fn : PySem.W.findCls K (.ref C) (.type "type") "__name__" = some (.get (.builtin "getset_descriptor.__get__") (.builtin "type.__name__") (.ref C) (.type "type"))
  nm : ∃ cd dd sl t, K.lookup C = some ⟨.type "type", dd, .cls cd, sl⟩ ∧ (sl[2]?).join = some (.str nm t)
section
variable {X : Cx} {o : Expr} {to : TE} {p q : Pos}
/-- e.__class__.__name__, e an exception in the making, without a dict as yet -/
def tClsNm (K : PySem.W.Frag) (to : TE) : TE := fun σ H Q => to σ H fun x H1 => ∃ (a C : Addr) (nm : Str), x = .ref a ∧ RC K C nm ∧ H1 a = some (exo a C none) ∧ Q (.str nm) H1
theorem pe_clsnm (ho : PE X o to) (h1 : attributeBase o "__class__" X.env (eval o X.env) = eval o X.env := by rfl)
    (h2 : attributeBase (.Attribute o "__class__" p) "__name__" X.env (eval (.Attribute o "__class__" p) X.env) = eval (.Attribute o "__class__" p) X.env := by rfl) :
    PE X (.Attribute (.Attribute o "__class__" p) "__name__" q) (tClsNm X.K to) := by
  refine ⟨fun pins s σ H Q I h => ?_⟩
  refine attr_of h2 (attr_of h1 (thn (ho.run pins s σ H _ I h) fun u s1 hh => ?_))
  obtain ⟨x, H1, I1, rx, a, C, nm, ex, T, ha, q⟩ := hh
  subst ex
  obtain rfl : u = Value.ref a := rx
  obtain ⟨t1, hg⟩ := exo_at I1.hok ha
  obtain ⟨cd, dd, sl, t, hC, hs⟩ := T.nm
  have J : PySem.W.InstAt s1.heap a { cls := .ref C, dict := none, data := .fields #[.ref t1, .none, .none, .none, .bool false, .none] } C none := ⟨hg, rfl, rfl, trivial⟩
  refine Xh.exc_class T.x.hg T.x.hk T.x.hs T.x.hd T.x.ha T.x.hn T.x.ht T.x.hm I1.kIn J ?_
  have I2 := I1.tok (s1.toks + 1)
  refine Xh.cls_name hC hs rfl T.rd T.fn I2.kIn ?_
  exact ⟨.str nm, H1, I2.tok _, ⟨t, rfl⟩, q⟩
end
end L2
end
section
set_option Elab.async false
set_option linter.all false
set_option maxRecDepth 100000
set_option maxHeartbeats 2000000
namespace L2
open PySem PySem.Spec PyProof.Rows
/-! ### RungError.__init__(self, *told): self.word = self.__class__.__name__ -/
/-- C() where C's __init__ takes only what is left over -/
def tMkO0 (C : Addr) (sp : Sp) : St → Hp → XK → Prop := fun σ H Q => ∀ a, H a = none → sp [.ref a] (upd H a (exo a C none))
  (fun v H2 => v = .non ∧ ∃ (d : Addr) (fs : List (Str × V)), H2 a = some (exo a C (some d)) ∧ H2 d = some (exd d fs) ∧ H d = none ∧ Q (.ref C) (some d) (upd (del H2 a) d (.xd fs))) (fun _ _ _ => False)
section
variable {X : Cx} {p pos : Pos}
theorem pmk_oex0 {CX : CXT} {x : Str} {C fI : Addr} {k : Nat} {sp : Sp} (T : OexC X.K C) (iC : PySem.W.findIn X.K (.ref C) "__init__" = some (some (.ref fI))) (tI : PySem.W.typeIn X.K (.ref fI) = some (.type "function"))
    (F1 : FnR X.prog X.w X.K X.mg X.base CX k fI sp) (hr : Room (k + 1) X.A) (hx : Passes CX X (fun _ _ _ => False)) (hg : Gl X x) (hm : X.mg x = some (.ref C))
    (hdb : (x == ("__debug__" : Str)) = false := by decide) :
    PMk X (.Call (.Name x p) [] [] pos) (tMkO0 C sp) := by
  intro pins s σ H Q I h
  obtain ⟨nm, q, N, bs, bm, sn, sub, ab, col, dd, k0, k1, k2, k3, k5, hC, hbm⟩ := T.cls
  refine wpAny_Call_Name_kw (ld_glob I hg hm ?_ hdb)
  refine PySem.W.callWith_K0 I.kIn T.kC ?_
  show wpAny _ _ (call (.ref C) []) _ _ _
  obtain ⟨hp, g, dr, tk, os⟩ := s
  have hsz : hp.objs.size ≤ hp.objs.size + 1 := Nat.le_succ _
  have hn : H (hp.objs.size + 1) = none := I.hok.fresh hsz
  have hq := h (hp.objs.size + 1) hn
  have kk : ∀ b o, hp.get? b = some o → ((hp.push (PySem.W.kdv_tup [])).push (PySem.HandSPX.excO C hp.objs.size)).get? b = some o := fun b o e => Heap.get?_push_of_some _ (Heap.get?_push_of_some _ e)
  have hget : ((hp.push (PySem.W.kdv_tup [])).push (PySem.HandSPX.excO C hp.objs.size)).get? (hp.objs.size + 1) = some (PySem.HandSPX.excO C hp.objs.size) := by heap_get
  have I2 : Inv X pins σ (upd H (hp.objs.size + 1) (exo (hp.objs.size + 1) C none)) ⟨(hp.push (PySem.W.kdv_tup [])).push (PySem.HandSPX.excO C hp.objs.size), g, dr, tk, os⟩ :=
    I.laid (t' := tk) (a := hp.objs.size + 1) (o := exo (hp.objs.size + 1) C none) (h' := (hp.push (PySem.W.kdv_tup [])).push (PySem.HandSPX.excO C hp.objs.size)) kk hsz (exo_ok hget)
  have r2 : Vals [V.ref (hp.objs.size + 1)] [Value.ref (hp.objs.size + 1)] := .cons rfl .nil
  refine wpAny_call (PySem.HandSPX.call_own F.excBase_ValueError (fun Y => PySem.HandSPX.refsVE_contains Y bm hbm) (I.kIn _ _ hC) (PySem.W.looks_findIn I.kIn iC) (fun self => PySem.W.bind_fn I.kIn self tI) (by rw [sizeLine_eq]; exact Nat.zero_le _)
    (codeAny_mono (F1 _ X.stack _ _ [Value.ref (hp.objs.size + 1)] [V.ref (hp.objs.size + 1)] _ (fun _ _ _ => False) (hr.make C [] []) (I2.env0.make C [] []) r2 hq) fun r s' hq' => ?_))
  cases r with
  | error er => exact hx pins σ _ _ er s' I2 hq'
  | ok fl =>
    cases fl with
    | ret u =>
      obtain ⟨v, H2, os2, bare2, un2, hok2, rv, ev, d, fs, ea, ed, hd1, q2⟩ := hq'
      subst ev
      obtain ⟨h2, g2, d2, t2, os'⟩ := s'
      exact ⟨rv, mk_end (raises_own T.exC T.tyC) I hsz kk un2 hok2 os2 bare2 ea ed hd1 q2⟩
    | next => exact False.elim hq'
    | brk => exact False.elim hq'
    | cont => exact False.elim hq'
end
end L2
namespace Xh
open PySem PySem.Spec PyProof.Rows L2
/-- what RungError.__init__ promises: self an exception in the making, told a new tuple -/
def spRI (K : PySem.W.Frag) : Sp := fun vs H Q E => ∃ (a p C : Addr) (nm : Str), vs = [.ref a, .ref p] ∧ RC K C nm ∧ PySem.W.findIn K (.ref C) "word" = some none ∧ H a = some (exo a C none) ∧
  ∀ dx, H dx = none → dx ≠ a → Q .non (upd (upd H dx (exd dx [("word", .str nm)])) a (exo a C (some dx)))
/-- .. as it is called -/
def spRI1 (K : PySem.W.Frag) : Sp := fun vs H Q E => ∃ (a C : Addr) (nm : Str), vs = [.ref a] ∧ RC K C nm ∧ PySem.W.findIn K (.ref C) "word" = some none ∧ H a = some (exo a C none) ∧
  ∀ H1 dx, H dx = none → dx ≠ a → Same H H1 → H1 dx = none → Q .non (upd (upd H1 dx (exd dx [("word", .str nm)])) a (exo a C (some dx)))
section
variable {P : Program} {w : World} {K : PySem.W.Frag} {mg : Str → Option Value} {base : Heap}
theorem ok_rinit {st : Stmt} {f : Addr} {fd : FuncData} (F : FunD K "__init__" "RungError.__init__" (defArgs st) (defBody st) (defScope st) [] [] f fd) (S : FnScope (["self", "told"] : List Str) ["self", "told"] (defScope st))
    (hb : ∀ (kV doc pm : Value) (an : Option Addr) (cdv ct : Value) (us rest : List Value), us.length = ["self"].length → bindArgs (PySem.W.fnOf "__init__" "RungError.__init__" (defArgs st) (defBody st) (defScope st) .none kV doc pm an cdv ct) ⟨us ++ rest, []⟩ = (newTuple rest >>= fun t => pure ((["self"] : List Str).zip us ++ [(("told" : Str), t)])))
    (body : ∀ X : Cx, X.K = K → X.N = (["self", "told"] : List Str) → X.env.scope = defScope st → PSs X (defBody st) (tOst K "word" (tVar 0) (tClsNm K (tVar 0)))) : FnR P w K mg base (L2.CX P w) 1 f (spRI1 K) := by
  obtain ⟨oc, od, dV, kV, doc, pm, an, cdv, ct, osl, rfl, lk, hcd, hD, _⟩ := F.ex
  rcases hD with ⟨_, rfl⟩ | ⟨e, _⟩
  case inr => exact absurd rfl e
  have G := StX.fn_star (CX := L2.CX P w) (P := P) (w := w) (mg := mg) (base := base) (k := 0) (ps := ["self"]) (pv := "told") (N := ["self", "told"]) (sp := spRI K) lk hcd S StX.cxUp (hb kV doc pm an cdv ct) (fun A outer s H vs Q E hr h => ?_)
  · intro A outer s H us vs Q E hr e0 r h
    obtain ⟨a, C, nm, rfl, T, hw, ha, k⟩ := h
    refine G A outer s H us _ Q E hr e0 r ⟨[.ref a], [], rfl, rfl, by rw [sizeLine_eq]; exact Nat.zero_le _, fun p hp => ⟨a, p, C, nm, rfl, T, hw, by rw [upd_ne (ne_of_none ha hp)]; exact ha, fun dx hdx hne => ?_⟩⟩
    have hdp : dx ≠ p := fun z => by rw [z, upd_same] at hdx; cases hdx
    refine k _ dx (by rw [upd_ne hdp] at hdx; exact hdx) hne (fun b o e => by rw [upd_ne (ne_of_none e hp)]; exact e) hdx
  · obtain ⟨a, p, C, nm, rfl, T, hw, ha, k⟩ := h
    refine ⟨_, body _ rfl rfl rfl, ?_⟩
    refine ⟨_, rfl, a, C, nm, rfl, T, ha, _, rfl, a, C, rfl, T.o, hw, .inl ⟨ha, fun dx hdx hne => k dx hdx hne⟩⟩
/-- a class whose objects RungError.__init__ alone makes -/
structure RX (K : PySem.W.Frag) (mg : Str → Option Value) (C fI : Addr) (nm : Str) : Prop where
  c : RC K C nm
  w : PySem.W.findIn K (.ref C) "word" = some none
  i : PySem.W.findIn K (.ref C) "__init__" = some (some (.ref fI))
  t : PySem.W.typeIn K (.ref fI) = some (.type "function")
  g : mg nm = some (.ref C)
/-- raise C(): its word -/
def tMkR (C : Addr) (nm : Str) : L2.St → Hp → XK → Prop := fun _ H Q => ∀ (d : Addr) (H' : Hp), Same H H' → H' d = some (.xd [("word", .str nm)]) → H d = none → Q (.ref C) (some d) H'
theorem pmk_rung {X : Cx} {C fI : Addr} {nm : Str} {p pos : Pos} (T : RX X.K X.mg C fI nm) (F : FnR X.prog X.w X.K X.mg X.base (L2.CX X.prog X.w) 1 fI (spRI1 X.K)) (hr : Room 2 X.A) (hg : Gl X nm) (hdb : (nm == ("__debug__" : Str)) = false := by decide) :
    PMk X (.Call (.Name nm p) [] [] pos) (tMkR C nm) := by
  intro pins s σ H Q I h
  refine pmk_oex0 T.c.o T.i T.t F hr passL hg T.g hdb pins s σ H Q I fun a ha => ?_
  refine ⟨a, C, nm, rfl, T.c, T.w, upd_same, fun H1 dx hdx hne hs h1 => ⟨rfl, dx, _, upd_same, by rw [upd_ne hne, upd_same], by rw [upd_ne hne] at hdx; exact hdx, ?_⟩⟩
  have hdx' : H dx = none := by rw [upd_ne hne] at hdx; exact hdx
  refine h dx _ (fun b o e => ?_) upd_same hdx'
  have h2 : b ≠ a := ne_of_none e ha
  have h3 : b ≠ dx := ne_of_none e hdx'
  rw [upd_ne h3, del_ne h2, upd_ne h2, upd_ne h3]
  exact hs b o (by rw [upd_ne h2]; exact e)
end
end Xh
end
section
set_option Elab.async false
set_option linter.all false
set_option maxRecDepth 100000
set_option maxHeartbeats 2000000
/-! several except clauses, each with a class or a tuple of classes, with or without a name -/
namespace Xh
open PySem PySem.Spec PyProof.Rows L2
/-- what a clause's test tells: its classes -/
def TestE (X : Cx) (te : Expr) (cs : List Value) : Prop :=
  ∀ (a : Addr) (pn : List (Addr × Obj)) (s : Shared) (σ : L2.St) (H : Hp) (cls : Value) (b : Bool), Inv (X.suite a pn) [] σ H s → PySem.W.Looks (model X.prog X.w) s.heap (typeOf (.ref a)) cls → PySem.W.exmAny X.K cls cs = some b →
    ∀ (Q : Bool → Shared → Prop) (E : Value → Shared → Prop), (∀ (h' : Heap) (tk : Nat), (∀ c o, s.heap.get? c = some o → h'.get? c = some o) → Q b { s with heap := h', toks := tk }) →
      wpAny (model X.prog X.w) (X.A.mark (some (.ref a))) (eval te X.env) (fun c s₁ => wpAny (model X.prog X.w) (X.A.mark (some (.ref a))) (excMatches (.ref a) c) Q E s₁) E s
theorem testName {X : Cx} {x : Str} {c : Value} {np : Pos} (hc : Names X x c) : TestE X (.Name x np) [c] := by
  intro a pn s σ H cls b I LT hx Q E hq
  obtain ⟨b1, d1, h1, h2, h3⟩ := PySem.W.exmAny_cons hx
  have e2 : d1 = false := (Option.some.inj h2).symm
  subst e2
  rw [Bool.or_false] at h3
  subst h3
  have LM := PySem.W.exm_one (M := model X.prog X.w) I.kIn LT h1
  have q : Q b s := by
    obtain ⟨hp, g, d, tk, os⟩ := s
    exact hq hp tk fun _ _ e => e
  obtain ⟨hg, hdbg, hm | ⟨hm, hv, hnn⟩⟩ := hc
  · exact ld_glob (X := X.suite a pn) I hg hm (LM.here q) hdbg
  · exact ld_blt (X := X.suite a pn) I hg hm hv (LM.here q) hnn hdbg
theorem testTup2 {X : Cx} {x y : Str} {C D : Addr} {p1 p2 pos : Pos} {k} (hx : Gl X x) (hmx : X.mg x = some (.ref C)) (hy : Gl X y) (hmy : X.mg y = some (.ref D)) (hdx : (x == ("__debug__" : Str)) = false := by decide) (hdy : (y == ("__debug__" : Str)) = false := by decide) :
    TestE X (.Tuple [.Name x p1, .Name y p2] k pos) [.ref C, .ref D] := by
  intro a pn s σ H cls b I LT hb Q E hq
  obtain ⟨hp, g, d, tk, os⟩ := s
  refine wpAny_Tuple_spliced ?_
  show wpAny _ _ (spliced ((false, eval (.Name x p1) X.env) :: (false, eval (.Name y p2) X.env) :: [])) _ _ _
  refine Calls.spliced_cons (ld_glob (X := X.suite a pn) I hx hmx (Calls.spliced_cons (ld_glob (X := X.suite a pn) I hy hmy (Calls.spliced_nil ⟨by rw [sizeLine_eq]; exact (by decide : 2 ≤ 16777216), ?_⟩) hdy)) hdx)
  have kk : ∀ b o, hp.get? b = some o → (hp.push ({ cls := .type "tuple", data := .seq [Value.ref C, Value.ref D].toArray } : Obj)).get? b = some o := fun b o e => Heap.get?_push_of_some _ e
  have LM := PySem.W.exm_tup2 (M := model X.prog X.w) (K := X.K) (I.kIn.keeps kk) (LT.keeps kk) (Heap.get?_push_size _ rfl) hb
  exact LM.here (hq _ tk kk)
/-- a clause: its test, its name's slot (if any), its suite -/
abbrev Cl : Type := List Value × Option Nat × (Addr → Value → Option Addr → TS)
/-- the ends behind a suite: the clause's name is gone -/
def outOf (D : Ends) : Option Nat → Ends
  | none => D
  | some i => { nx := fun σ' H' => D.nx (σ'.set i none) H', rt := D.rt, bk := fun σ' H' => D.bk (σ'.set i none) H', ct := fun σ' H' => D.ct (σ'.set i none) H' }
def intoS (σ : L2.St) (a : Addr) : Option Nat → L2.St
  | none => σ
  | some i => σ.set i (some (.ref a))
/-- what the clauses wish of an exception of the body, one after the other -/
def wClauses (K : PySem.W.Frag) (Wout : WX) (D : Ends) : List Cl → WX
  | [] => Wout
  | (cs, n, ts) :: r => fun cls d σ H => ∃ b, PySem.W.exmAny K cls cs = some b ∧ (b = true → ∀ a, H a = none → ts a cls d (outOf D n) (intoS σ a n) H) ∧ (b = false → wClauses K Wout D r cls d σ H)
inductive ClsOk (X : Cx) : List ExceptHandler → List Cl → Prop
  | nil : ClsOk X [] []
  | cons {te : Expr} {cs : List Value} {ts : Addr → Value → Option Addr → TS} {b₀ : Stmt} {suite : List Stmt} {pos' : Pos} {hds : List ExceptHandler} {l : List Cl} (hc : TestE X te cs)
      (hsu : ∀ (a : Addr) (oe : Obj) (cls : Value) (d : Option Addr) (pn : List (Addr × Obj)), Zc cls d oe → (∃ vs, oe.data = .fields vs) → PSs (X.suite a ((a, oe) :: pn)) (b₀ :: suite) (ts a cls d)) (r : ClsOk X hds l) :
      ClsOk X (.ExceptHandler (some te) none (b₀ :: suite) pos' :: hds) ((cs, none, ts) :: l)
  | as {te : Expr} {cs : List Value} {ts : Addr → Value → Option Addr → TS} {b₀ : Stmt} {suite : List Stmt} {pos' : Pos} {hds : List ExceptHandler} {l : List Cl} {n : Str} {i : Nat} (hc : TestE X te cs) (hi : X.N[i]? = some n) (hln : X.env.kindOf n = some .local)
      (hsu : ∀ (a : Addr) (oe : Obj) (cls : Value) (d : Option Addr) (pn : List (Addr × Obj)), Zc cls d oe → (∃ vs, oe.data = .fields vs) → PSs (X.suite a ((a, oe) :: pn)) (b₀ :: suite) (ts a cls d)) (r : ClsOk X hds l) :
      ClsOk X (.ExceptHandler (some te) (some n) (b₀ :: suite) pos' :: hds) ((cs, some i, ts) :: l)
theorem flying_keeps {base h h' : Heap} {l : List Env} {e : Addr} {Z : Obj → Prop} (x : HandSPX.FlyingZ base l e Z h) (k : ∀ b o, h.get? b = some o → h'.get? b = some o) : HandSPX.FlyingZ base l e Z h' := by
  obtain ⟨f1, f2, f3, oe, vs, T, oT, ts, g1, g2, g3, g4, g5, g6, g7, g8, g9⟩ := x
  exact ⟨fun b o e => k b o (f1 b o e), f2, f3.of_keeps fun b o e _ => ⟨o, k b o e, rfl⟩, oe, vs, T, oT, ts, k _ _ g1, g2, g3, g4, g5, g6, k _ _ g7, g8, g9⟩
section
variable {X : Cx} {body : List Stmt} {h₀ : ExceptHandler} {hds : List ExceptHandler} {l : List Cl} {pos : Pos} {tb : WX → TS} {Wout : WX}
theorem ps_try_cls (hs : X.stack = X.env :: X.outer) (hf : X.env.frame = some X.env.locals) (hN : X.N.Nodup) (tk : Takes X Wout)
    (hb : ∀ (W : WX) (pn : List (Addr × Obj)) (xe : Value → Shared → Prop), Takes (X.tr pn xe) W → PassesOwn (model X.prog X.w) X.A X.env xe → PSs (X.tr pn xe) body (tb W))
    (hh : ClsOk X (h₀ :: hds) l) : PS X (.Try body (h₀ :: hds) [] [] pos) (fun D σ H => tb (wClauses X.K Wout D l) D σ H) := by
  refine ⟨fun pins s σ H D I h => ?_⟩
  have ok := I.ok
  have hfr : X.A.frames = some (X.env :: X.outer) := by rw [ok.frames, hs]
  refine wpAny_Try_except ?_
  refine wpAny_mono ((hb (wClauses X.K Wout D l) (X.pn ++ pins) (fun e s₁ => wpAny (model X.prog X.w) X.A (noteFrame e X.env) (fun _ s₂ => wpAny (model X.prog X.w) X.A (setFlight e none) (fun _ s₃ =>
    wpAny (model X.prog X.w) X.A (handleBy e X.env (h₀ :: hds)) (SP X pins D) X.xe s₃) X.xe s₂) X.xe s₁) (fun u s' xx => ?_) PassesOwn.looking).run [] s σ H D (I.toTry _) h) (fun f s1 hsp => ?_) (fun e s1 he => he)
  · -- the catch
    obtain ⟨a, B, sI, pins', σ', H', cls, d, rfl, J', nb, up, sky, na, os, ag, w⟩ := xx
    have J : Inv X pins σ' H' sI := J'.ofTry ok
    have sky' : Sky B (X.env :: X.outer) a (Zc cls d) X.env.locals s'.heap := by rw [← hs]; exact sky
    show wpAny (model X.prog X.w) X.A (noteFrame (.ref a) X.env) _ _ _
    refine Sky.land Zc.steady hfr hf sky' fun h3 fl3 up3 => ?_
    have notFr : ∀ {h : Heap} {o : Obj} {vs : Array Value}, h.FunFrames B (X.env :: X.outer) → h.get? a = some o → o.data = .fields vs → a ∉ frs (X.env :: X.outer) := fun {h o vs} ff e dd hm => by
      obtain ⟨_, o', e', hnf⟩ := ff.mem hm
      rw [e] at e'; cases e'
      exact hnf _ dd
    have go : ∀ {hds' : List ExceptHandler} {l' : List Cl}, ClsOk X hds' l' → ∀ (h3 : Heap) (t3 : Nat), HandSPX.FlyingZ B (X.env :: X.outer) a (Zc cls d) h3 → sI.heap.UpToSlots h3 → wClauses X.K Wout D l' cls d σ' H' →
        wpAny (model X.prog X.w) X.A (handleBy (.ref a) X.env hds') (SP X pins D) X.xe { s' with heap := h3, toks := t3 } := by
      intro hds' l' hk
      induction hk with
      | nil =>
        intro h3 t3 fl3 up3 w
        refine wpAny_handleBy_nil ?_
        obtain ⟨k1, k2, k3, oe, vs, T, oT, ts', he, hz, hd, h1, hr⟩ := id fl3
        unfold PySem.passOn
        refine wpAny_bind (wpAny_field he hd h1 ?_)
        rw [if_neg (show ¬ ((Value.ref T == Value.none) = true) from by simp)]
        have fin : wpAny (model X.prog X.w) X.A (setFlight (.ref a) X.env.frame) (fun _ s4 => wpAny (model X.prog X.w) X.A (throw (.ref a) : Sem Flow) (SP X pins D) X.xe s4) X.xe { s' with heap := h3, toks := t3 } := by
          rw [hf]
          refine HandSPX.setFlight_upZ fl3 fun h4 hh4 up4 => wpAny_throw (tk _ _ ?_)
          exact ⟨a, B, sI, pins, σ', H', cls, d, rfl, J, nb, up3.trans up4, .inr (.inr (by rw [hs]; exact hh4)), na, os, ag, w⟩
        first
          | exact wpAny_bind (wpAny_pure (wpAny_bind fin))
          | exact wpAny_bind fin
      | @cons te cs ts b₀ suite pos' hds2 l2 hc hsu r ih =>
        intro h3 t3 fl3 up3 w
        obtain ⟨b, hb1, hyes, hno⟩ := w
        have J3 : Inv X pins σ' H' { s' with heap := h3, toks := t3 } := J.landed nb fl3.1 up3 os ag
        obtain ⟨oe3, vs3, he3, hz3, hd3⟩ := fl3.there
        have nfr := notFr fl3.2.2.1 he3 hd3
        have nL : a ≠ X.env.locals := fun z => nfr (List.mem_filterMap.mpr ⟨X.env, List.mem_cons_self, by rw [hf, z]⟩)
        have nF : a ∉ X.fs := fun hm => by
          obtain ⟨e, he, q⟩ := List.mem_filterMap.mp hm
          exact nfr (List.mem_filterMap.mpr ⟨e, List.mem_cons_of_mem _ he, q⟩)
        have S3 := J3.suite he3 hd3 na nL nF
        refine wpAny_handleBy_cons (codeAny_handlers_test ?_) (by intro q; cases q)
        have LT : PySem.W.Looks (model X.prog X.w) h3 (typeOf (.ref a)) cls := fun A Q E s k q => wpAny_typeOf_ref (k _ _ he3) (by rw [hz3.1]; exact q)
        refine hc a _ _ _ _ cls b S3 LT hb1 _ _ fun h5 t5 k5 => ?_
        have fl5 := flying_keeps fl3 k5
        have up5 : sI.heap.UpToSlots h5 := up3.trans (Heap.UpToSlots.of_keeps k5)
        cases b with
        | true =>
          refine codeAny_handlers_suite ?_
          refine HandSPX.lands_againZ fl5 fun h4 fl4 up4 => ?_
          have J4 : Inv X pins σ' H' { s' with heap := h4, toks := t5 } := J.landed nb fl4.1 (up5.trans up4) os ag
          obtain ⟨oe4, vs4, he4, hz4, hd4⟩ := fl4.there
          have S4 := J4.suite he4 hd4 na nL nF
          refine wpAny_mono ((hsu a oe4 cls d (X.pn ++ pins) hz4 ⟨_, hd4⟩).run [] _ _ H' _ S4 (hyes rfl a na)) (fun f s6 hsp => ?_) (fun _ _ z => False.elim z)
          cases f with
          | next =>
            obtain ⟨σ6, H6, S6, q6⟩ := hsp
            exact ⟨_, _, S6.unsuite ok, q6⟩
          | brk =>
            obtain ⟨σ6, H6, S6, q6⟩ := hsp
            exact ⟨_, _, S6.unsuite ok, q6⟩
          | cont =>
            obtain ⟨σ6, H6, S6, q6⟩ := hsp
            exact ⟨_, _, S6.unsuite ok, q6⟩
          | ret u =>
            obtain ⟨v6, σ6, H6, S6, r6, q6⟩ := hsp
            exact ⟨_, _, _, S6.unsuite ok, r6, q6⟩
        | false =>
          show wpAny _ X.A (handleBy (.ref a) X.env hds2) _ _ _
          exact ih h5 t5 fl5 up5 (hno rfl)
      | @as te cs ts b₀ suite pos' hds2 l2 n i hc hi hln hsu r ih =>
        intro h3 t3 fl3 up3 w
        obtain ⟨b, hb1, hyes, hno⟩ := w
        have J3 : Inv X pins σ' H' { s' with heap := h3, toks := t3 } := J.landed nb fl3.1 up3 os ag
        obtain ⟨oe3, vs3, he3, hz3, hd3⟩ := fl3.there
        have nfr := notFr fl3.2.2.1 he3 hd3
        have nL : a ≠ X.env.locals := fun z => nfr (List.mem_filterMap.mpr ⟨X.env, List.mem_cons_self, by rw [hf, z]⟩)
        have nF : a ∉ X.fs := fun hm => by
          obtain ⟨e, he, q⟩ := List.mem_filterMap.mp hm
          exact nfr (List.mem_filterMap.mpr ⟨e, List.mem_cons_of_mem _ he, q⟩)
        have S3 := J3.suite he3 hd3 na nL nF
        refine wpAny_handleBy_cons (codeAny_handlers_test ?_) (by intro q; cases q)
        have LT : PySem.W.Looks (model X.prog X.w) h3 (typeOf (.ref a)) cls := fun A Q E s k q => wpAny_typeOf_ref (k _ _ he3) (by rw [hz3.1]; exact q)
        refine hc a _ _ _ _ cls b S3 LT hb1 _ _ fun h5 t5 k5 => ?_
        have fl5 := flying_keeps fl3 k5
        have up5 : sI.heap.UpToSlots h5 := up3.trans (Heap.UpToSlots.of_keeps k5)
        cases b with
        | true =>
          refine codeAny_handlers_suite_as ?_
          refine HandSPX.lands_againZ fl5 fun h4 fl4 up4 => ?_
          have J4 : Inv X pins σ' H' { s' with heap := h4, toks := t5 } := J.landed nb fl4.1 (up5.trans up4) os ag
          obtain ⟨oe4, vs4, he4, hz4, hd4⟩ := fl4.there
          have S4 := J4.suite he4 hd4 na nL nF
          refine store_ok (X := X.suite a ((a, oe4) :: (X.pn ++ pins))) (v := .ref a) S4 hN hi (.inl hln) rfl (fun s5 S5 => ?_) (.inr hln)
          refine wpAny_mono ((hsu a oe4 cls d (X.pn ++ pins) hz4 ⟨_, hd4⟩).run [] s5 _ H' _ S5 (hyes rfl a na)) (fun f s6 hsp => ?_) (fun _ _ z => False.elim z)
          have end_ : ∀ {σ6 : L2.St} {H6 : Hp} {Q : Shared → Prop}, Inv (X.suite a ((a, oe4) :: (X.pn ++ pins))) [] σ6 H6 s6 → (∀ s7, Inv X pins (σ6.set i none) H6 s7 → Q s7) →
              wpAny (model X.prog X.w) X.A (do bindName X.env n .none; unbindBehindTheSuite X.env n pos') (fun _ s7 => Q s7) X.xe s6 := fun {σ6 H6 Q} S6 hq => gone_ok (S6.unsuite ok) hN hi hln hq
          cases f with
          | next =>
            obtain ⟨σ6, H6, S6, q6⟩ := hsp
            exact end_ S6 fun s7 J7 => ⟨_, _, J7, q6⟩
          | brk =>
            obtain ⟨σ6, H6, S6, q6⟩ := hsp
            exact end_ S6 fun s7 J7 => ⟨_, _, J7, q6⟩
          | cont =>
            obtain ⟨σ6, H6, S6, q6⟩ := hsp
            exact end_ S6 fun s7 J7 => ⟨_, _, J7, q6⟩
          | ret u =>
            obtain ⟨v6, σ6, H6, S6, r6, q6⟩ := hsp
            exact end_ S6 fun s7 J7 => ⟨_, _, _, J7, r6, q6⟩
        | false =>
          show wpAny _ X.A (handleBy (.ref a) X.env hds2) _ _ _
          exact ih h5 t5 fl5 up5 (hno rfl)
    exact go hh h3 s'.toks fl3 (up.trans up3) w
  · cases f with
    | next =>
      obtain ⟨σ', H', J', q⟩ := hsp
      exact wpAny_execs_nil ⟨σ', H', J'.ofTry ok, q⟩
    | brk =>
      obtain ⟨σ', H', J', q⟩ := hsp
      exact ⟨σ', H', J'.ofTry ok, q⟩
    | cont =>
      obtain ⟨σ', H', J', q⟩ := hsp
      exact ⟨σ', H', J'.ofTry ok, q⟩
    | ret u =>
      obtain ⟨v, σ', H', J', r, q⟩ := hsp
      exact ⟨v, σ', H', J'.ofTry ok, r, q⟩
end
end Xh
end
section
set_option Elab.async false
set_option linter.all false
set_option maxRecDepth 100000
set_option maxHeartbeats 2000000
/-! a lambda handed on from def to def -/
namespace Xh
open PySem PySem.Spec PyProof.Rows L2 LamX
section
variable {X : Cx} {pins : List (Addr × Obj)} {σ : L2.St} {H HZ : Hp} {s s1 : Shared}
theorem lam_startG {fs : List Addr} {A : Around} {outer : List Env} {E : XK} {scope : Scope} {f c' : Addr} {h₁ : Heap} {tk : Nat} (I : Inv X pins σ H s) (L : LamS X.env.scope scope) (e0 : Env0 X.prog X.w X.K X.mg X.base A outer s1 HZ) (hd : A.handled = none)
    (un : Un fs [] H HZ s.heap s1.heap) (hns : h₁.Ns s1.heap.objs.size fun y => ([] : List (Str × Value)).reverse.lookup y) (kp : ∀ b o, s1.heap.get? b = some o → h₁.get? b = some o) :
    Inv (lamCx X A outer s1 HZ E scope f c') [] σ HZ { s1 with heap := h₁, toks := tk } := by
  have hfree := L.has I.ok
  have cm : ∀ {y c}, (cloFrom X.env.cells scope.names []).lookup y = some c → X.env.cells.lookup y = some c := fun {y c} e => by
    rcases cloFrom_mem (PySem.mem_of_lookup e) with hm | ⟨h1, h2⟩
    · cases hm
    · obtain ⟨c1, hc⟩ := hfree _ h1 rfl
      have hc : X.env.cells.lookup y = some c1 := hc
      have e2 : c = c1 := by
        rw [h2, hc] <;> rfl
      rw [e2]
      exact hc
  have look : ∀ {y}, scope.names.lookup y = some .free → ∃ c, (cloFrom X.env.cells scope.names []).lookup y = some c := fun {y} hl => by
    have hy : (y, NameKind.free) ∈ scope.names := PySem.mem_of_lookup hl
    exact mem_lookup (cloFrom_has (cells := X.env.cells) (acc := []) hy)
  have cellK : ∀ {c : Addr} {v : Option Value}, H c = none → s.heap.IsCell c v → h₁.IsCell c v := fun {c v} n ⟨o, ho, hd⟩ => by
    obtain ⟨sl, q⟩ := un.any ho n (by simp)
    exact ⟨_, kp _ _ q, hd⟩
  have noA : ∀ b : Addr, b ∉ (lamCx X A outer s1 HZ E scope f c').ex := fun b z => absurd (show b ∈ ([] : List Addr) from z) (by simp)
  refine ⟨⟨e0.mod, L.kind, rfl, rfl, Nat.le_refl _, fun y z c e1 e2 => I.ok.inj y z c (cm e1) (cm e2), fun y hy => ?_, fun y c z _ => ?_, fun _ => hd, Around.frames_deeper e0.frames, .inr ⟨rfl, rfl⟩, fun b z => absurd z (noA b), e0.bs, e0.bsz, fun b _ _ => noA b,
      fun b z => absurd z (noA b), e0.funs, e0.frf⟩,
    rfl, e0.bare, Un.kept kp, ⟨_, hns, fun i y v e1 e2 e3 => ?_⟩, fun y c e => ?_, e0.hok.fresh (Nat.le_refl _), fun y c e => ?_, fun q hq => absurd (show q ∈ ([] : List (Addr × Obj)) ++ [] from hq) (by simp), e0.hok.kept kp, I.len⟩
  · have hy : scope.names.lookup y = some .cell ∨ scope.names.lookup y = some .free := hy
    rcases hy with hy | hy
    · exact absurd rfl (L.own _ (PySem.mem_of_lookup hy)).2
    · exact look hy
  · have z : false = true := z
    cases z
  · have e3 : Vis scope y := e3
    rcases e3 with k | k | k
    · exact absurd rfl (L.own _ (PySem.mem_of_lookup k)).1
    · exact absurd rfl (L.own _ (PySem.mem_of_lookup k)).2
    · obtain ⟨m, hn, hl⟩ := I.loc
      have hvis : Vis X.env.scope y := (L.free _ (PySem.mem_of_lookup k) rfl).elim (fun k => .inr (.inl k)) (fun k => .inr (.inr k))
      obtain ⟨w', r, q⟩ := hl i y v e1 e2 hvis
      obtain ⟨c2, h2⟩ := look k
      refine ⟨w', r, .inr ⟨.inr k, c2, h2, ?_⟩⟩
      have c1 := cm h2
      rcases q with ⟨k', _⟩ | ⟨_, c3, e', z⟩
      · have k' : X.env.scope.names.lookup y = some .local := k'
        rcases L.free _ (PySem.mem_of_lookup k) rfl with k2 | k2 <;> rw [show X.env.scope.names.lookup y = _ from k2] at k' <;> cases k'
      · rw [c1] at e'
        cases e'
        exact cellK (I.freeC y _ c1) z
  · obtain ⟨w', z⟩ := I.cell y c (cm e)
    exact ⟨w', cellK (I.freeC y c (cm e)) z⟩
  · obtain ⟨v, o, ho, hd⟩ := I.cell y c (cm e)
    exact un.free c o ho (I.freeC y c (cm e)) (by simp)
end
/-- the thing at f can be called, without arguments, from whatever runs behind the state s (abstract heap H): tl tells its reading, q its code's name -/
def CanAct (P : Program) (w : World) (K : PySem.W.Frag) (mg : Str → Option Value) (base : Heap) (k : Nat) (q : Str) (f c' : Addr) (tl : XK → Hp → VK → Prop) (s : Shared) (H : Hp) : Prop :=
  ∀ (fs : List Addr) (CXg : CXT) (Ng : List Str) (qg : Str) (sg : Scope) (g : Addr) (cdg : Value) (A : Around) (outer : List Env) (sZ : Shared) (HZ0 : Hp) (Eg : XK), Un fs [] H HZ0 s.heap sZ.heap → f ∉ fs → (∀ b ∈ frs outer, b ∈ fs) → Room (k + 1) (A.deeper (envOfC qg sg sZ.heap.objs.size g cdg)) →
    ∀ (i : Nat) (a : Str) (W : WX) (pn : List (Addr × Obj)) (xe : Value → Shared → Prop) (E : XK) (p1 p2 : Pos), Ng[i]? = some a → Vis sg a → (a == ("__debug__" : Str)) = false → (a == ("__classdict__" : Str)) = false →
      Takes ((cxOf CXg P w K mg base Ng qg sg g cdg A outer sZ HZ0 Eg).tr pn xe) W → (∀ cls d σ' H', E cls d H' → W cls d σ' H') →
      PE ((cxOf CXg P w K mg base Ng qg sg g cdg A outer sZ HZ0 Eg).tr pn xe) (.Call (.Name a p1) [] [] p2) (fun σZ HZ Q => σZ[i]? = some (some (.ref f)) ∧ HZ c' = some (CodeO c' q) ∧ tl E HZ Q)
theorem CanAct.later {P : Program} {w : World} {K : PySem.W.Frag} {mg : Str → Option Value} {base : Heap} {k : Nat} {q : Str} {f c' : Addr} {tl : XK → Hp → VK → Prop} {s s1 : Shared} {H H1 : Hp} {fs0 : List Addr} (c : CanAct P w K mg base k q f c' tl s H) (un : Un fs0 [] H H1 s.heap s1.heap) (hf : f ∉ fs0) :
    CanAct P w K mg base k q f c' tl s1 H1 := fun fs CXg Ng qg sg g cdg A outer sZ HZ0 Eg un1 hf1 ho hr i a W pn xe E p1 p2 => by
  refine c (fs0 ++ fs) CXg Ng qg sg g cdg A outer sZ HZ0 Eg ((un.mono (fun b hb => List.mem_append_left _ hb) (fun _ z => z)).trans (un1.mono (fun b hb => List.mem_append_right _ hb) (fun _ z => z))) (fun z => ?_) (fun b hb => List.mem_append_right _ (ho b hb)) hr i a W pn xe E p1 p2
  rcases List.mem_append.mp z with z | z
  · exact hf z
  · exact hf1 z
section
variable {X : Cx} {pins : List (Addr × Obj)} {σ : L2.St} {H : Hp} {s : Shared}
/-- a lambda just made can be called -/
theorem canAct_of {f c' : Addr} {pm ctv : Value} {params : Arguments} {body : Expr} {scope : Scope} {k : Nat} {tb : XK → TE}
    (I : Inv X pins σ H s) (L : LamS X.env.scope scope) (hf : s.heap.get? f = some (PySem.W.kla_obj "<lambda>" (X.env.qual ++ "<lambda>") params body scope (cloFrom X.env.cells scope.names []) pm c' ctv)) (hfn : H f = none)
    (hbind : bindArgs (PySem.W.kla_fn "<lambda>" (X.env.qual ++ "<lambda>") params body scope (cloFrom X.env.cells scope.names []) pm (.ref c') ctv) ⟨[], []⟩ = pure [])
    (hbody : ∀ (A : Around) (outer : List Env) (s : Shared) (H : Hp) (E : XK), Room k (A.deeper (lamEnv X scope s.heap.objs.size f c')) → PE (lamCx X A outer s H E scope f c') body (tb E)) :
    CanAct X.prog X.w X.K X.mg X.base k (X.env.qual ++ "<lambda>") f c' (fun E H' Q => tb E σ H' Q) s H := by
  intro fs CXg Ng qg sg g cdg A outer sZ HZ0 Eg un0 hff ho hr i a W pn xe E p1 p2 hN hv hd hcd tk hW
  refine ⟨fun pinsZ s0 σZ HZ Q IZ h => ?_⟩
  obtain ⟨hs, hc, ht⟩ := h
  refine wpAny_Call_Name_kw (thn ((pe_var (pos := p1) (i := i) hN hv hd hcd).run pinsZ s0 σZ HZ (fun v H1 => v = .ref f ∧ H1 = HZ) IZ ⟨.ref f, hs, rfl, rfl⟩) fun u s1 ⟨v, H1, I1, r1, q1⟩ => ?_)
  obtain ⟨ev, eH⟩ := q1
  subst ev
  rw [eH] at I1
  obtain rfl : u = Value.ref f := r1
  have un : Un fs [] H HZ s.heap s1.heap := un0.trans (I1.base.mono ho fun _ z => z)
  have of1 : s1.heap.get? f = some (PySem.W.kla_obj "<lambda>" (X.env.qual ++ "<lambda>") params body scope (cloFrom X.env.cells scope.names []) pm c' ctv) := un.keep f _ hf hfn hff (fun z => nomatch (show f ∈ ([] : List Addr) from z))
  refine PySem.W.callWith_F0 ⟨_, _, _, _, of1⟩ ?_
  obtain ⟨⟨oc, vs, t, hoc, hdc, hvc⟩, _, _⟩ := I1.hok c' _ hc
  have rc : codeAny (model X.prog X.w) (A.deeper (envOfC qg sg sZ.heap.objs.size g cdg)) (.call (.ref f) ⟨[], []⟩) (CR (L2.CX X.prog X.w) (envOfC qg sg sZ.heap.objs.size g cdg :: outer) X.prog X.w HZ s1 Q E) s1 := by
    refine PySem.W.kla_callFunE hr.depth of1 rfl L.co L.gen rfl ⟨c', oc, vs, t, rfl, hoc, hdc, hvc⟩ ?_
    rw [hbind]
    refine wpAny_pure (wpAny_newFunctionEnv (fun y hy => (L.own y hy).2) (fun y hy => absurd hy (by simp)) (fun h₁ hns hsb => ⟨I1.nolimit.fresh _ hsb, ?_⟩) L.kind)
    show codeAny _ _ (.expr body (lamEnv X scope s1.heap.objs.size f c')) _ _
    have kp : ∀ b o, s1.heap.get? b = some o → h₁.get? b = some o := fun b o e => hsb.extBut b o (Nat.ne_of_lt (Heap.lt_size e)) (Heap.get?_push_of_some _ e)
    have J : Inv (lamCx X (A.deeper (envOfC qg sg sZ.heap.objs.size g cdg)) (envOfC qg sg sZ.heap.objs.size g cdg :: outer) s1 HZ E scope f c') [] σ HZ { s1 with heap := h₁, toks := s1.toks + ([] : List (Str × Value)).length } :=
      lam_startG I L I1.env0 hr.hd un hns kp
    refine PySem.W.kla_codeExpr (wpAny_mono ((hbody _ _ s1 HZ E (hr.deeper _)).run [] _ _ HZ Q J ht) (fun v s' hq => ?_) fun e s' hq => hq)
    obtain ⟨w', H', J', rv, q⟩ := hq
    exact ⟨w', H', J'.os, J'.bare, J'.base, J'.hok, rv, q⟩
  have hx : Passes (L2.CX X.prog X.w) ((cxOf CXg X.prog X.w X.K X.mg X.base Ng qg sg g cdg A outer sZ HZ0 Eg).tr pn xe) E := passes_call tk hW
  refine wpAny_call (codeAny_mono rc fun r s' hq => ?_)
  cases r with
  | error e => exact hx pinsZ σZ HZ s1 e s' I1 hq
  | ok fl =>
    cases fl with
    | ret u => exact I1.after hq
    | next => exact False.elim hq
    | brk => exact False.elim hq
    | cont => exact False.elim hq
end
/-- a def of one parameter (Ng: its names, the parameter first) that gets something to call: TT its promise; what the callee raises is caught within -/
structure Gives (P : Program) (w : World) (K : PySem.W.Frag) (mg : Str → Option Value) (base : Heap) (k kl : Nat) (x : Str) (g : Addr) (TT : (XK → Hp → VK → Prop) → Hp → VK → Prop) : Prop where
  m : mg x = some (.ref g)
  kp : PySem.W.keepIn K (.ref g) = true
  run : ∀ (q : Str) (A : Around) (outer : List Env) (f c' : Addr) (s : Shared) (H : Hp) (Q : VK) (tl : XK → Hp → VK → Prop), Room k A → Env0 P w K mg base A outer s H → CanAct P w K mg base kl q f c' tl s H → f ∉ frs outer → f < s.heap.objs.size → H c' = some (CodeO c' q) → TT tl H Q →
    codeAny (model P w) A (.call (.ref g) ⟨[.ref f], []⟩) (CR CX0 outer P w H s Q E0) s
theorem gives_of {P : Program} {w : World} {K : PySem.W.Frag} {mg : Str → Option Value} {base : Heap} {k kl : Nat} {x a : Str} {g : Addr} {fd : FuncData} {pg : Arguments} {bg : List Stmt} {sg : Scope} {Ng : List Str} {TT : (XK → Hp → VK → Prop) → Hp → VK → Prop}
    (F : FunD K x x pg bg sg [] [] g fd) (hm : mg x = some (.ref g)) (Sg : FnScope Ng [a] sg)
    (hb : ∀ (kV doc pm : Value) (an : Option Addr) (cdv ct : Value) (us : List Value), us.length = [a].length → bindArgs (PySem.W.fnOf x x pg bg sg .none kV doc pm an cdv ct) ⟨us, []⟩ = pure ([a].zip us))
    (hG : ∀ (q : Str) (cdg : Value) (A : Around) (outer : List Env) (f c' : Addr) (s : Shared) (H : Hp) (Q : VK) (tl : XK → Hp → VK → Prop), Room k (A.deeper (envOfC x sg s.heap.objs.size g cdg)) → CanAct P w K mg base kl q f c' tl s H → f ∉ frs outer → f < s.heap.objs.size → H c' = some (CodeO c' q) → TT tl H Q →
      ∃ t, PSs (cxOf CX0 P w K mg base Ng x sg g cdg A outer s H E0).nox bg t ∧ t { nx := fun _ H' => Q .non H', rt := Q } (L2.start Ng [.ref f]) H) : Gives P w K mg base (k + 1) kl x g TT := by
  have b := FunD.bindsN F hb
  refine ⟨hm, F.kp, fun q A outer f c' s H Q tl hr e0 act hfo hfs hc hT => ?_⟩
  obtain ⟨oc, od, dV, kV, doc, pm, an, cdv, ct, osl, rfl, lk, hcd, _, _⟩ := F.ex
  refine run_ofS (N := Ng) (ps := [a]) (us := [.ref f]) (vs := [.ref f]) lk hcd Sg hr e0 (b s [.ref f] (e0.mod.kin.keeps fun c o e => (e0.bs c o e).1) rfl) (.cons rfl .nil) rfl fun hr' => ?_
  obtain ⟨t, h1, h2⟩ := hG q cdv A outer f c' s H Q tl hr' act hfo hfs hc hT
  exact ⟨t, h1.nox, h2⟩
section
variable {X : Cx}
/-- x(lambda: body) -/
theorem pe_lam {T : List (Addr × Str)} {TT : (XK → Hp → VK → Prop) → Hp → VK → Prop} {x : Str} {g c P : Addr} {k kl : Nat}
    {params : Arguments} {body : Expr} {scope : Scope} {t : XK → TE} {p lpos pos : Pos} (G : Gives X.prog X.w X.K X.mg X.base k kl x g TT) (hg : Gl X x)
    (TB : TabB X.base X.mg c P) (hcode : X.env.code = .ref c) (hmT : (P, X.env.qual ++ "<lambda>") ∈ T) (hu : ∀ p ∈ T, p.1 = P → p.2 = X.env.qual ++ "<lambda>") (hr : Room k X.A) (L : LamS X.env.scope scope) (hdef : defaultsOf params X.env = ([], []))
    (hbind : ∀ (q : Str) (cl : List (Str × Addr)) (pm cv ctv : Value), bindArgs (PySem.W.kla_fn "<lambda>" q params body scope cl pm cv ctv) ⟨[], []⟩ = pure [])
    (hbody : ∀ (A : Around) (outer : List Env) (s : Shared) (H : Hp) (E : XK) (f c' : Addr), Room kl (A.deeper (lamEnv X scope s.heap.objs.size f c')) → PE (lamCx X A outer s H E scope f c') body (t E))
    (hdb : (x == ("__debug__" : Str)) = false := by decide) :
    PE X (.Call (.Name x p) [.Lambda params body scope lpos] [] pos) (tLam T TT t) := by
  refine ⟨fun pins s σ H Q I h => ?_⟩
  obtain ⟨hT, h⟩ := h
  refine wpAny_Call_Name_kw (ld_glob I hg G.m ?_ hdb)
  refine PySem.W.callWith_K (h₀ := X.base) I.ok.mod.kin G.kp ?_ (by rfl) (by rfl)
  show wpAny _ _ (spliced ((false, eval (.Lambda params body scope lpos) X.env) :: backTo pos (starEach [] X.env))) _ _ s
  refine Calls.spliced_cons (lam_make2 I TB hcode hmT hu hT hdef (L.has I.ok) fun f c' pm' ctv H1 s' I1 eN T1 hf hfn hfr hco => ?_)
  refine Calls.spliced_nil ⟨I1.kIn, ?_⟩
  have act := canAct_of (tb := t) I1 L hf hfn (hbind _ _ _ _ _) (fun A outer s H E hr2 => hbody A outer s H E f c' hr2)
  have rc := G.run _ X.A X.stack f c' s' H1 Q _ hr I1.env0 act hfr (Heap.lt_size hf) hco (h H1 eN T1)
  refine wpAny_call (codeAny_mono rc fun r s2 hq => ?_)
  cases r with
  | error e => exact (show False from hq).elim
  | ok fl =>
    cases fl with
    | ret u => exact I1.after hq
    | next => exact False.elim hq
    | brk => exact False.elim hq
    | cont => exact False.elim hq
end
/-- y(a) in a def that got something to call, y such a def too -/
theorem pe_passOn {P : Program} {w : World} {K : PySem.W.Frag} {mg : Str → Option Value} {base : Heap} {k kl : Nat} {q a y x : Str} {f c' gy g : Addr} {tl : XK → Hp → VK → Prop} {TT : (XK → Hp → VK → Prop) → Hp → VK → Prop} {s : Shared} {H : Hp} {A : Around} {outer : List Env} {Ng : List Str} {sg : Scope} {cdg : Value} {p1 p2 pos : Pos} {i : Nat}
    (G : Gives P w K mg base k kl y gy TT) (act : CanAct P w K mg base kl q f c' tl s H) (hfo : f ∉ frs outer) (hfs : f < s.heap.objs.size) (hr : Room k (A.deeper (envOfC x sg s.heap.objs.size g cdg)))
    (hgy : sg.names.lookup y = some .globalImplicit) (hN : Ng[i]? = some a) (hv : Vis sg a) (hdy : (y == ("__debug__" : Str)) = false := by decide) (hd : (a == ("__debug__" : Str)) = false := by decide) (hcd : (a == ("__classdict__" : Str)) = false := by decide) :
    PE (cxOf CX0 P w K mg base Ng x sg g cdg A outer s H E0).nox (.Call (.Name y p1) [.Name a p2] [] pos) (fun σZ HZ Q => σZ[i]? = some (some (.ref f)) ∧ HZ c' = some (CodeO c' q) ∧ TT tl HZ Q) := by
  refine ⟨fun pins s1 σZ HZ Q I h => ?_⟩
  obtain ⟨hs, hc, hT⟩ := h
  refine wpAny_Call_Name_kw (ld_glob (X := (cxOf CX0 P w K mg base Ng x sg g cdg A outer s H E0).nox) I hgy G.m ?_ hdy)
  refine PySem.W.callWith_K (h₀ := base) I.ok.mod.kin G.kp (thn ((pa_cons (X := (cxOf CX0 P w K mg base Ng x sg g cdg A outer s H E0).nox) (pe_var (pos := p2) (i := i) hN hv hd hcd) pa_nil).run pos pins s1 σZ HZ (fun vs H1 => vs = [.ref f] ∧ H1 = HZ) I ⟨.ref f, hs, rfl, rfl⟩) fun us s2 ⟨vs, H2, I2, r, q2⟩ => ⟨I2.kIn, ?_⟩) (by rfl) (by rfl)
  obtain ⟨ev, eH⟩ := q2
  subst ev
  rw [eH] at I2
  have eu : us = [Value.ref f] := by
    cases r with
    | cons r0 rr =>
      cases rr
      obtain rfl := (show _ = Value.ref f from r0)
      rfl
  subst eu
  have un : Un (frs outer) [] H HZ s.heap s2.heap := I2.base
  have lt2 : s.heap.objs.size ≤ s2.heap.objs.size := I2.sz
  have nfr : f ∉ frs (envOfC x sg s.heap.objs.size g cdg :: outer) := fun z => by
    unfold frs at z
    rw [List.filterMap_cons] at z
    have z' : f ∈ s.heap.objs.size :: frs outer := z
    rcases List.mem_cons.mp z' with e | e
    · exact absurd hfs (by rw [e]; exact Nat.lt_irrefl _)
    · exact hfo e
  have rc := G.run q (A.deeper (envOfC x sg s.heap.objs.size g cdg)) (envOfC x sg s.heap.objs.size g cdg :: outer) f c' s2 HZ Q tl hr I2.env0 (act.later un hfo) nfr (Nat.lt_of_lt_of_le hfs lt2) hc hT
  refine wpAny_call (codeAny_mono rc fun r s3 hq => ?_)
  cases r with
  | error e => exact (show False from hq).elim
  | ok fl =>
    cases fl with
    | ret u => exact I2.after hq
    | next => exact False.elim hq
    | brk => exact False.elim hq
    | cont => exact False.elim hq
end Xh
end
section
set_option Elab.async false
set_option linter.all false
set_option maxRecDepth 100000
set_option maxHeartbeats 2000000
namespace Xh
open PySem PySem.Spec PyProof.Rows L2
/-- a def of the module, called by its name: its promise, its defaults -/
structure Own (P : Program) (w : World) (K : PySem.W.Frag) (mg : Str → Option Value) (base : Heap) (CX : CXT) (k : Nat) (x : Str) (ps : List Str) (dvs : List V) (sp : Sp) : Prop where
  ex : ∃ (f : Addr) (fd : FuncData) (ds : List Value), FnOk P w K mg base CX k f fd ps sp ∧ mg x = some (.ref f) ∧ PySem.W.keepIn K (.ref f) = true ∧ Binds K fd ps ds ∧ Vals dvs ds
/-- .. called with its last parameter by keyword -/
structure OwnK (P : Program) (w : World) (K : PySem.W.Frag) (mg : Str → Option Value) (base : Heap) (CX : CXT) (k n : Nat) (x : Str) (ps ks : List Str) (sp : Sp) : Prop where
  ex : ∃ (f : Addr) (fd : FuncData), FnOk P w K mg base CX k f fd ps sp ∧ mg x = some (.ref f) ∧ PySem.W.keepIn K (.ref f) = true ∧ KBn K fd ps n ks (fun us ws => us ++ ws) (fun vs zs => vs ++ zs)
section
variable {P : Program} {w : World} {K : PySem.W.Frag} {mg : Str → Option Value} {base : Heap} {CX : CXT} {j k n : Nat} {x : Str} {ps ks : List Str} {dvs : List V} {sp sp' : Sp}
theorem Own.mono (O : Own P w K mg base CX j x ps dvs sp) (h : j ≤ k) : Own P w K mg base CX k x ps dvs sp := by
  obtain ⟨f, fd, ds, F, m, kp, b, r⟩ := O.ex
  exact ⟨f, fd, ds, F.mono h, m, kp, b, r⟩
theorem OwnK.mono (O : OwnK P w K mg base CX j n x ps ks sp) (h : j ≤ k) : OwnK P w K mg base CX k n x ps ks sp := by
  obtain ⟨f, fd, F, m, kp, b⟩ := O.ex
  exact ⟨f, fd, F.mono h, m, kp, b⟩
theorem own_of {q : Str} {params : Arguments} {body : List Stmt} {scope : Scope} {f : Addr} {fd : FuncData} (F : FunD K x q params body scope [] [] f fd) (G : FnOk P w K mg base CX k f fd ps sp) (m : mg x = some (.ref f))
    (h : ∀ (kV doc pm : Value) (an : Option Addr) (cdv ct : Value) (us : List Value), us.length = ps.length → bindArgs (PySem.W.fnOf x q params body scope .none kV doc pm an cdv ct) ⟨us, []⟩ = pure (ps.zip us)) : Own P w K mg base CX k x ps [] sp :=
  ⟨f, fd, [], G, m, F.kp, FunD.bindsN F h, .nil⟩
theorem own_ofK {q : Str} {params : Arguments} {body : List Stmt} {scope : Scope} {f : Addr} {fd : FuncData} {kws : List (Str × V)} (F : FunD K x q params body scope [] kws f fd) (G : FnOk P w K mg base CX k f fd ps sp) (m : mg x = some (.ref f))
    (h : ∀ (kV doc pm : Value) (an : Option Addr) (cdv ct : Value) (us ws : List Value), us.length = n → ws.length = ks.length → bindArgs (PySem.W.fnOf x q params body scope .none kV doc pm an cdv ct) ⟨us, ks.zip ws⟩ = pure (ps.zip (us ++ ws))) : OwnK P w K mg base CX k n x ps ks sp := by
  have kp := F.kp
  obtain ⟨oc, od, dV, kV, doc, pm, an, cdv, ct, osl, rfl, lk, hcd, hD, hK⟩ := F.ex
  rcases hD with ⟨_, rfl⟩ | ⟨e, _⟩
  · exact ⟨f, _, G, m, kp, ⟨fun s us ws X l1 l2 => .of_eq (h kV doc pm an cdv ct us ws l1 l2), fun r1 r2 => r1.append r2⟩⟩
  · exact absurd rfl e
theorem own_of0 {q : Str} {params : Arguments} {body : List Stmt} {scope : Scope} {f : Addr} {fd : FuncData} {kws : List (Str × V)} (F : FunD K x q params body scope [] kws f fd) (G : FnOk P w K mg base CX k f fd ps sp) (m : mg x = some (.ref f)) (n : Nat) (hk : kws ≠ []) (hn : n + kws.length = ps.length)
    (h : ∀ (D : Addr) (doc pm : Value) (an : Option Addr) (cdv ct : Value) (us ks : List Value), us.length = n → ks.length = kws.length →
      KwChain D ((kws.map (·.1)).zip ks) (bindArgs (PySem.W.fnOf x q params body scope .none (.ref D) doc pm an cdv ct) ⟨us, []⟩) (ps.zip (us ++ ks))) : Own P w K mg base CX k x ps (kws.map (·.2)) sp := by
  obtain ⟨ds, r, b⟩ := FunD.binds0 F n hk hn h
  exact ⟨f, fd, ds, G, m, F.kp, b, r⟩
end
section
variable {X : Cx} {CX : CXT} {k n : Nat} {x : Str} {ps ks : List Str} {dvs : List V} {sp : Sp} {E : XK} {p pos : Pos} {e : Expr} {es : List Expr} {kws : List Keyword} {t tk : TA}
theorem pe_own (O : Own X.prog X.w X.K X.mg X.base CX k x ps dvs sp) (hr : Room k X.A) (hg : Gl X x) (hx : Passes CX X E) (ha : PA X (e :: es) t) (hdb : (x == ("__debug__" : Str)) = false := by decide)
    (he : starEach (e :: es) X.env = (false, eval e X.env) :: starEach es X.env := by rfl) (hpl : (backTo pos (starEach es X.env)).any (·.1) = false := by rfl) : PE X (.Call (.Name x p) (e :: es) [] pos) (tCall sp dvs E t) := by
  obtain ⟨f, fd, ds, F, m, kp, b, r⟩ := O.ex
  exact pe_call F hr hg m kp b r hx ha hdb he hpl
theorem pe_own0 (O : Own X.prog X.w X.K X.mg X.base CX k x ps dvs sp) (hr : Room k X.A) (hg : Gl X x) (hx : Passes CX X E) (hdb : (x == ("__debug__" : Str)) = false := by decide) : PE X (.Call (.Name x p) [] [] pos) (tCall sp dvs E tNil) := by
  obtain ⟨f, fd, ds, F, m, kp, b, r⟩ := O.ex
  exact pe_call0 F hr hg m kp b r hx hdb
theorem pe_ownK (O : OwnK X.prog X.w X.K X.mg X.base CX k n x ps ks sp) (hr : Room k X.A) (hg : Gl X x) (hx : Passes CX X E)
    (ha : PA X (e :: es) t) (hkw : PK X kws tk) (hall : (backToKw pos (keywordEach kws X.env)).all (·.1.isSome) = true := by rfl) (hks : (backToKw pos (keywordEach kws X.env)).filterMap (·.1) = ks := by rfl)
    (hdb : (x == ("__debug__" : Str)) = false := by decide) (he : starEach (e :: es) X.env = (false, eval e X.env) :: starEach es X.env := by rfl)
    (hpl : ((backTo pos (starEach (e :: es) X.env)).any (·.1) || (backToKw pos (keywordEach kws X.env)).any (·.1.isNone)) = false := by rfl) :
    PE X (.Call (.Name x p) (e :: es) kws pos) (tCallN n ks.length sp (fun vs zs => vs ++ zs) E t tk) := by
  obtain ⟨f, fd, F, m, kp, b⟩ := O.ex
  exact pe_callN F hr hg m kp b hx ha hkw hall hks hdb he hpl
end
end Xh
end
section
set_option Elab.async false
set_option linter.all false
set_option maxRecDepth 100000
set_option maxHeartbeats 2000000
namespace Xh
open PySem PySem.Spec PyProof.Rows L2
/-! ### enumerate of a tuple -/
theorem meets_enum1 {v : Value} {o : Obj} {H : Heap → Prop} (B : Begins v o H) :
    Meets (Builtin.«enumerate.__new__» ⟨[.type "enumerate", v], []⟩) (fun _ R s => H s.heap ∧
      R (.ok (.ret (.ref (s.heap.push o).objs.size))) { s with heap := (s.heap.push o).push { cls := .type "enumerate", data := .fields #[.none, .bool false, .ref s.heap.objs.size, rawInt 0, .none, .none] } }) :=
  .of_wp fun prog w A R s h => by
    obtain ⟨hp, g, d, tk, os⟩ := s
    obtain ⟨h1, h⟩ := h
    have hsub := sub_enumerate
    have q1 : ∀ {A' : Around} {E : Value → Shared → Prop} {Q : Value → Shared → Prop}, Q (.ref hp.objs.size) ⟨hp.push o, g, d, tk, os⟩ → wpAny (model prog w) A' (pyIter v) Q E ⟨hp, g, d, tk, os⟩ :=
      fun q => B.iter prog w _ _ ⟨hp, g, d, tk, os⟩ _ h1 q
    wp_walk using q1
    refine wpAny_stack_any fun st => wpAny_pure ?_
    split
    · rename_i c _ _ _ _ _
      cases (c == Value.type "enumerate")
      · wp_walk using q1
        exact ⟨_, rfl, h⟩
      · wp_walk using q1
        exact ⟨_, rfl, h⟩
    · wp_walk using q1
      exact ⟨_, rfl, h⟩
theorem call_enum1 {prog : Program} {w : World} {A : Around} {E : Value → Shared → Prop} {s : Shared} {v : Value} {o : Obj} {H : Heap → Prop} {Q : Value → Shared → Prop} (B : Begins v o H) (h1 : H s.heap)
    (h : ∀ h', IsEnum h' (s.heap.objs.size + 1) s.heap.objs.size 0 .none → h'.get? s.heap.objs.size = some o → h'.objs.size = s.heap.objs.size + 2 →
      (∀ b o, s.heap.get? b = some o → h'.get? b = some o) → Q (.ref (s.heap.objs.size + 1)) { s with heap := h' }) :
    wpAny (model prog w) A (call (.type "enumerate") [v]) Q E s := by
  refine callType_new F.called_enumerate (by decide) (F.typeCall_enumerate_1 _) (F.newCall_enumerate_1 _) (fun obj => F.args_object_init_2 obj _) F.entry_enumerate_new (meets_enum1 B) ⟨h1, ?_⟩
  have hz : (s.heap.push o).objs.size = s.heap.objs.size + 1 := Heap.size_push ..
  show _ ∧ _
  rw [hz]
  have he := Heap.get?_push_size (s.heap.push o) (o := { cls := .type "enumerate", data := .fields #[.none, .bool false, .ref s.heap.objs.size, rawInt 0, .none, .none] }) rfl
  rw [hz] at he
  exact ⟨⟨_, he, rfl⟩, h _ he (Heap.get?_push_of_some _ (Heap.get?_push_size _ B.free)) (by rw [Heap.size_push, hz]) fun b o x => Heap.get?_push_of_some _ (Heap.get?_push_of_some _ x)⟩
/-- the tuple at a, each item in a new pair with its place -/
def IteT (K : PySem.W.Frag) (a : Addr) : It :=
  ⟨fun i H => ∃ (xs : List V) (x : V), SqT K H a xs ∧ xs[i]? = some x, fun i H v H' => ∃ T x, v = .ref T ∧ H T = none ∧ H' = upd H T (.tup [.int (i : Nat), x]) ∧ ∀ xs, SqT K H a xs → xs[i]? = some x, fun i H => ∃ xs : List V, SqT K H a xs ∧ xs.length ≤ i⟩
theorem next_enum_endT {prog : Program} {w : World} {A : Around} {E : Value → Shared → Prop} {s : Shared} {e it l : Addr} {i : Nat} {items : Array Value} {c : Int} {old : Value} {Q : Option Value → Shared → Prop} (hh : A.handled = none)
    (he : IsEnum s.heap e it c old) (hit : s.heap.IsTupleIter it l i) (hl : s.heap.IsTuple l items) (hx : items[i]? = none) (hQ : ∀ h', Heap.ExtBut it s.heap h' → Q none { s with heap := h' }) : wpAny (model prog w) A (pyNext (.ref e)) Q E s := by
  unfold pyNext
  refine wpAny_bind (wpAny_attempt (wpAny_callSpecial?_slot (name := Str.ofString "__next__") ⟨_, he, rfl⟩ F.slot_enumerate_next (wpAny_call_entry F.slot_enumerate_next ⟨_, he, rfl⟩ F.entry_enumerate_next ?_ (F.args_enumerate_next_1 _))))
  show wpAny _ _ (field (.ref e) 2 >>= _) _ _ _
  refine wpAny_bind (wpAny_field he rfl (x := .ref it) rfl (wpAny_bind (wpAny_nextOf_tuple_end hh hit hl hx fun h' x he' hx' => ?_)))
  obtain ⟨o, ho, hc⟩ := hx'
  exact wpAny_bind (wpAny_isInstance (T := "StopIteration") (b := true) ⟨o, ho, hc⟩ isSubtype_stop (wpAny_pure (hQ _ he')))
theorem turn_enumT {P : Program} {w : World} {K : PySem.W.Frag} {elts : List Expr} {kk : Nat} {tpos : Pos} {a e it : Addr} (hai : a ≠ it) (hea : e ≠ a) :
    Turn P w K (.Tuple elts kk tpos) (IteT K a) [e, it] e (fun i h => (∃ old, IsEnum h e it ((i : Nat) : Int) old) ∧ h.IsTupleIter it a i ∧ e ≠ it) where
  mem := by simp
  obj := fun i h st b hb => by
    obtain ⟨⟨old, he⟩, ⟨o, ho, hc, hd⟩, _⟩ := st
    rcases (show b = e ∨ b = it by simpa using hb) with rfl | rfl
    · exact ⟨_, he, fun v q => nomatch q⟩
    · exact ⟨o, ho, fun v q => by rw [hd] at q; cases q⟩
  keep := fun i h h' st k => let ⟨⟨old, he⟩, hi, hne⟩ := st; ⟨⟨old, k e (by simp) _ he⟩, hi.at fun o q => k it (by simp) o q, hne⟩
  item := by
    intro X hP hw hK hc i pins s σ H E I hf st hg
    subst hP hw hK
    obtain ⟨⟨old, he⟩, hit, hne⟩ := st
    obtain ⟨xs, x, hq, hx⟩ := hg
    obtain ⟨its, rv, p, hz⟩ := I.tuple hq
    obtain ⟨u, hu, ru⟩ := rv.get hx
    have hel : e < s.heap.objs.size := Heap.lt_size he
    have hil : it < s.heap.objs.size := by obtain ⟨_, q, _⟩ := hit; exact Heap.lt_size q
    have hlt : i < its.toArray.size := by
      obtain ⟨z, _⟩ := List.getElem?_eq_some_iff.mp hu
      simpa using z
    have D := Draws.tuple (prog := X.prog) (w := X.w) (A := X.A.in1) (I.ok.hd hc) it a hai its.toArray
    refine wpAny_pyNext_enum_itemD D he ⟨hit, p⟩ hlt hne (by simp [hne, hea]) fun x' h' tk hx' ho hs' hT hsz hk => ?_
    have ex : x' = u := by
      have z : its[i]? = some x' := by simpa using hx'
      rw [hu] at z
      exact (Option.some.inj z).symm
    subst ex
    refine ⟨_, rfl, wpAny_letOwnedTupleGo_enum (s := { s with heap := h', toks := tk + 1 }) ho fun h'' he' sb => ?_⟩
    have hT2 := (sb.2 _ (Nat.ne_of_gt hel)).trans hT
    have new : ObjOk X.prog X.w (upd H s.heap.objs.size (.tup [.int (i : Nat), x])) h'' s.heap.objs.size (.tup [.int (i : Nat), x]) :=
      ⟨by show 2 ≤ sizeLine; decide, [.int i tk, x'], .cons ⟨_, rfl⟩ (.cons ru .nil), ⟨_, hT2, rfl, _, rfl⟩⟩
    have I1 : Inv X pins σ (upd H s.heap.objs.size (.tup [.int (i : Nat), x])) { s with heap := h'', toks := tk + 1 } :=
      I.turnedNew (ch := [e, it]) (fun b ob hb q => (sb.2 b (fun z => hb (by simp [z]))).trans (hk b ob (fun z => hb (by simp [z])) (fun z => hb (by simp [z])) q)) hf (Nat.le_refl _) new
    refine ⟨.ref s.heap.objs.size, _, I1, rfl, ⟨_, x, rfl, I.hok.fresh (Nat.le_refl _), rfl, fun ys hy => by rw [I.tuple_inj hy hq]; exact hx⟩, ⟨⟨x', ?_⟩, hs'.1.at fun o q => (sb.2 it (Ne.symm hne)).trans q, hne⟩, fun b hb => ?_⟩
    · rw [show ((i + 1 : Nat) : Int) = (i : Int) + 1 by omega]
      exact he'
    · have hb' : b < s.heap.objs.size := by
        rcases (show b = e ∨ b = it by simpa using hb) with rfl | rfl
        · exact hel
        · exact hil
      rw [upd_ne (Nat.ne_of_lt hb')]
      exact (hf b hb).1
  done := by
    intro X hP hw hK hc i pins s σ H E I hf st hg
    subst hP hw hK
    obtain ⟨⟨old, he⟩, hit, hne⟩ := st
    obtain ⟨xs, hq, hx⟩ := hg
    obtain ⟨its, rv, p, hz⟩ := I.tuple hq
    obtain ⟨f0, f1, f2, f3, f4, f5⟩ := hf it (by simp)
    have hl := rv.length
    exact next_enum_endT (I.ok.hd hc) he hit p (by simp; omega) fun h' eb => ⟨rfl, I.turned (t' := s.toks) (fun b o hb q => eb b o hb q) f0 f1 f3 f4 f5⟩
  self := fun A i s Q E st h => let ⟨⟨_, he⟩, _⟩ := st; wpAny_pyIter_enum he h
def iEnT (K : PySem.W.Frag) (ta : TA) : TI := fun σ H R => ta σ H fun vs H1 => ∃ a xs, vs = [.ref a] ∧ SqT K H1 a xs ∧ R (IteT K a) H1
theorem pi_enT {X : Cx} {e : Expr} {ta : TA} {p pos tpos : Pos} {elts : List Expr} {kk : Nat} (hg : Gl X "enumerate") (hm : X.mg "enumerate" = none) (ha : PA X [e] ta) (hs : starEach [e] X.env = [(false, eval e X.env)] := by rfl) :
    PI X (.Tuple elts kk tpos) (.Call (.Name "enumerate" p) [e] [] pos) (iEnT X.K ta) := by
  refine ⟨fun pins s σ H R I h => ?_⟩
  refine Call_ (ld_blt I hg hm boot_enumerate (PyProof.Rows.callWith_type1 (thn (ha.run pos pins s σ H _ I h) fun us s1 ⟨vs, H1, I1, r1, q1⟩ => ?_) hs rfl))
  obtain ⟨a, xs, rfl, hq, q⟩ := q1
  cases r1 with
  | cons r rr =>
    cases rr
    cases r
    obtain ⟨its, rv, p', hz⟩ := I1.tuple hq
    have al : a < s1.heap.objs.size := by
      obtain ⟨o, q', _⟩ := p'
      exact Heap.lt_size q'
    refine call_enum1 (begins_tuple a its.toArray) p' fun h' he hit hsz hk => wpAny_pyIter_enum he ?_
    have I2 : Inv X pins σ H1 { s1 with heap := h' } := I1.kept (t' := s1.toks) hk
    refine ⟨s1.heap.objs.size + 1, [s1.heap.objs.size + 1, s1.heap.objs.size], _, _, H1, rfl, I2, turn_enumT (Nat.ne_of_lt al) (Nat.ne_of_gt (Nat.lt_succ_of_lt al)), ⟨⟨.none, he⟩, ⟨_, hit, rfl, rfl⟩, Nat.succ_ne_self _⟩, fun b hb => ?_, q⟩
    have hle : s1.heap.objs.size ≤ b := by
      rcases (show b = s1.heap.objs.size + 1 ∨ b = s1.heap.objs.size by simpa using hb) with rfl | rfl
      · exact Nat.le_add_right _ _
      · exact Nat.le_refl _
    exact I1.fpOk hle (I1.hok.fresh hle)
theorem walk_enT {K : PySem.W.Frag} {a : Addr} {xs : List V} : Walk (IteT K a) xs.length (fun H => SqT K H a xs) (YPair (fun i => some (.int (i : Nat))) (fun i => xs[i]?)) :=
  ⟨fun i H hi h => ⟨xs, xs[i], h, by simp [hi]⟩, fun H h => ⟨xs, h, Nat.le_refl _⟩,
    fun i H x H' hi h y => by
      obtain ⟨T, u, e1, e2, e3, q⟩ := y
      exact ⟨T, _, u, e1, e2, e3, rfl, q xs h⟩⟩
end Xh
namespace Xh
open PySem PySem.Spec PyProof.Rows L2
/-- xs[i] of a list, i not below 0, for `xs[i] op= e` -/
theorem get_list {X : Cx} : PGet X (rIxL X.K) := by
  intro pins s σ H o i ov iv Q I ro ri h
  obtain ⟨p, xs, k, z, rfl, rfl, hq, he, q⟩ := h
  cases ro
  obtain ⟨t, rfl⟩ := ri
  obtain ⟨its, r, pl, hz⟩ := I.list hq
  obtain ⟨j, h1, h2, h3, h4, h5⟩ := atI_get he
  obtain ⟨w, ew, rw'⟩ := r.get h2
  have hl := r.length
  have hn := line63
  have fin : EP X pins σ Q w s := ⟨z, H, I, rw', q⟩
  by_cases h0 : 0 ≤ k
  · have hj : k.toNat = j := by
      rw [seqIndex_of h0 h5] at h1
      exact Option.some.inj h1
    exact wpAny_getItem_list pl.isList h0 (by omega) (by rw [hj]; simpa using ew) fin
  · have hj : (k + (its.toArray.size : Int)).toNat = j := by
      rw [seqIndex_neg (by omega) h4] at h1
      rw [List.size_toArray, ← hl]
      exact Option.some.inj h1
    exact wpAny_getItem_list_neg pl.isList (by omega) (by rw [List.size_toArray] <;> omega) (by omega) (by rw [hj]; simpa using ew) fin
end Xh
end
section
set_option Elab.async false
set_option linter.all false
set_option maxRecDepth 100000
set_option maxHeartbeats 2000000
/-! a lambda as a thing that is handed about: with parameters, kept, called in another def -/
namespace Xh
open PySem PySem.Spec PyProof.Rows L2 LamX NdefX
/-- at f stands the lambda of the words F and the body b -/
def LamO (f : Addr) (F : NF) (b : Expr) : HO := .ext fun h => ∃ pm ctv : Value, h.get? f = some (PySem.W.kla_obj "<lambda>" F.qual F.params b F.scope F.cl pm F.c ctv)
theorem lamO_ne {f : Addr} {F : NF} {b : Expr} (ps : Array Value) : LamO f F b ≠ .tbl ps := fun z => by
  unfold LamO at z
  cases z
theorem lamO_at {P : Program} {w : World} {H : Hp} {h : Heap} {f : Addr} {F : NF} {b : Expr} (hok : HOk P w H h) (e : H f = some (LamO f F b)) : ∃ pm ctv : Value, h.get? f = some (PySem.W.kla_obj "<lambda>" F.qual F.params b F.scope F.cl pm F.c ctv) := (hok f _ e).1
/-- all but the tables stays, nothing tracked is lost, the tables are tables -/
structure Gr (T : List (Addr × Str)) (H H' : Hp) : Prop where
  x : ExtN H H'
  n : ∀ b, H' b = none → H b = none
  t : Tabs T H'
section
variable {T : List (Addr × Str)} {H H1 H2 : Hp}
theorem Gr.refl (t : Tabs T H) : Gr T H H := ⟨ExtN.refl H, fun _ e => e, t⟩
theorem Gr.trans (a : Gr T H H1) (b : Gr T H1 H2) : Gr T H H2 := ⟨a.x.trans b.x, fun c e => a.n c (b.n c e), b.t⟩
theorem Gr.of (t : Tabs T H) (s : Same H H1) : Gr T H H1 := ⟨ExtN.of s, fun b e => s.free e, t.ext s⟩
theorem Gr.same (a : Gr T H H1) (s : Same H1 H2) : Gr T H H2 := a.trans (.of a.t s)
end
section
variable {X : Cx} {pins : List (Addr × Obj)} {σ : L2.St} {H : Hp} {s : Shared}
theorem inv_lamO {F : NF} {b : Expr} {pm ctv : Value} {t' : Nat} (I : Inv X pins σ H s) :
    Inv X pins σ (upd H s.heap.objs.size (LamO s.heap.objs.size F b)) { s with heap := s.heap.push (PySem.W.kla_obj "<lambda>" F.qual F.params b F.scope F.cl pm F.c ctv), toks := t' } := by
  have e : (s.heap.push (PySem.W.kla_obj "<lambda>" F.qual F.params b F.scope F.cl pm F.c ctv)).get? s.heap.objs.size = some (PySem.W.kla_obj "<lambda>" F.qual F.params b F.scope F.cl pm F.c ctv) := Heap.get?_push_size _ rfl
  exact I.laid (fun c u q => Heap.get?_push_of_some _ q) (Nat.le_refl _) ⟨⟨pm, ctv, e⟩, ⟨_, e⟩, fun g1 g2 ⟨u, v, z⟩ st => ⟨u, v, st _ z⟩⟩
/-- the lambda's words, by the maker's context -/
def lamF (X : Cx) (params : Arguments) (scope : Scope) (c' : Addr) : NF := ⟨"<lambda>", X.env.qual ++ "<lambda>", params, [], scope, cloFrom X.env.cells scope.names [], c'⟩
theorem lamV_make {T : List (Addr × Str)} {c P : Addr} {params : Arguments} {body : Expr} {scope : Scope} {pos : Pos} {E : Value → Shared → Prop} {Q : Value → Shared → Prop} (I : Inv X pins σ H s) (TB : TabB X.base X.mg c P) (hcode : X.env.code = .ref c)
    (hm : (P, X.env.qual ++ "<lambda>") ∈ T) (hu : ∀ p ∈ T, p.1 = P → p.2 = X.env.qual ++ "<lambda>") (hT : Tabs T H) (hdef : defaultsOf params X.env = ([], [])) (hfree : ∀ y ∈ scope.names, y.2 = .free → ∃ c, X.env.cells.lookup y.1 = some c)
    (fin : ∀ (f c' : Addr) (H1 : Hp) (s' : Shared), Inv X pins σ H1 s' → Gr T H H1 → H f = none → H1 f = some (LamO f (lamF X params scope c') body) → H1 c' = some (CodeO c' (X.env.qual ++ "<lambda>")) → f ∉ frs X.stack → Q (.ref f) s') :
    wpAny (model X.prog X.w) X.A (eval (.Lambda params body scope pos) X.env) Q E s := by
  obtain ⟨tb, onP, good, known⟩ := hT _ hm
  have inHeap : s.heap.get? P = some { cls := .none, data := .fields tb } := I.hok P _ onP
  have bt : s.heap.BuiltinsAt X.mg P := TB.bm.keeps I.bk
  have off : ∀ f, s.heap.objs.size ≤ f → f ∉ frs X.stack := fun f le z => by
    rcases List.mem_cons.mp (I.stkSub _ z) with e | e
    · exact absurd I.lt (by rw [← e]; exact Nat.not_lt_of_le le)
    · exact I.nofs le e
  refine PySem.W.kla_eval hdef ?_
  cases look : codeAmong pos tb.toList with
  | some cv =>
    obtain ⟨c', rfl, co⟩ := known pos cv look
    refine PySem.W.kla_makeFunctionHit (mg := X.mg) (c := c) (P := P) (ps := tb) (closure_ok hfree) I.ok.glob (I.mod.glob.keeps I.bk) hcode (TB.code.keeps I.bk) inHeap good look bt fun ctv g tk up le => ?_
    have J : Inv X pins σ H { s with heap := g, toks := tk } := I.kept up
    have nw : H g.objs.size = none := J.hok.fresh (Nat.le_refl _)
    have sm : Same H (upd H g.objs.size (LamO g.objs.size (lamF X params scope c') body)) := fun b u e => by rw [upd_ne (ne_of_none e nw)]; exact e
    exact fin g.objs.size c' _ _ (inv_lamO (F := lamF X params scope c') (b := body) (pm := (X.mg "__name__").getD .none) (ctv := ctv) (t' := tk) J) (.of hT sm) nw upd_same (sm _ _ co) (off _ le)
  | none =>
    refine PySem.W.kla_makeFunction (mg := X.mg) (c := c) (P := P) (ps := tb) (closure_ok hfree) I.ok.glob (I.mod.glob.keeps I.bk) hcode (TB.code.keeps I.bk) inHeap good look TB.gP bt fun c' ctv g tk but le lt rec tab => ?_
    obtain ⟨c2, oc, vs, t, e2, g1, g2, g3⟩ := rec
    cases e2
    have nC : H c' = none := I.hok.fresh le
    have J := inv_table (t' := tk) (more := #[rawInt pos.line, rawInt pos.col, .ref c']) (h' := g) I onP (fun b o hb e => but b o hb e) tab le ⟨oc, vs, t, g1, g2, g3⟩
    have ex : ExtN H (upd (upd H P (.tbl (tb ++ #[rawInt pos.line, rawInt pos.col, .ref c']))) c' (CodeO c' (X.env.qual ++ "<lambda>"))) := fun b o e no => by
      have b1 : b ≠ P := fun z => by
        rw [z, onP] at e
        exact no tb (Option.some.inj e).symm
      rw [upd_ne (ne_of_none e nC), upd_ne b1]
      exact e
    have nn : ∀ b, upd (upd H P (.tbl (tb ++ #[rawInt pos.line, rawInt pos.col, .ref c']))) c' (CodeO c' (X.env.qual ++ "<lambda>")) b = none → H b = none := fun b e => upd_none (upd_none e)
    have lst : (tb ++ #[rawInt pos.line, rawInt pos.col, .ref c']).toList = tb.toList ++ [rawInt pos.line, rawInt pos.col, .ref c'] := by simp
    have tabs : Tabs T (upd (upd H P (.tbl (tb ++ #[rawInt pos.line, rawInt pos.col, .ref c']))) c' (CodeO c' (X.env.qual ++ "<lambda>"))) := fun p hp => by
      by_cases same : p.1 = P
      · refine ⟨_, by rw [same, upd_ne (ne_of_none onP nC), upd_same], by rw [lst]; exact PySem.TriplesOk_snoc _ _ _ _ good, fun p' cv q => ?_⟩
        rw [lst] at q
        rw [hu p hp same]
        rcases among_app _ good q with z | z
        · obtain ⟨c0, a1, a2⟩ := known p' cv z
          exact ⟨c0, a1, ex _ _ a2 codeO_ne⟩
        · exact ⟨c', z, upd_same⟩
      · obtain ⟨tb2, a1, a2, a3⟩ := hT p hp
        refine ⟨tb2, by rw [upd_ne (ne_of_none a1 nC), upd_ne same]; exact a1, a2, fun p' cv q => ?_⟩
        obtain ⟨c0, d1, d2⟩ := a3 p' cv q
        exact ⟨c0, d1, ex _ _ d2 codeO_ne⟩
    have nw := J.hok.fresh (Nat.le_refl g.objs.size)
    have sm := fun (o : HO) => (show Same _ (upd _ g.objs.size o) from fun b u e => by rw [upd_ne (ne_of_none e nw)]; exact e)
    exact fin g.objs.size c' _ _ (inv_lamO (F := lamF X params scope c') (b := body) (pm := (X.mg "__name__").getD .none) (ctv := ctv) (t' := tk) J) ((Gr.mk ex nn tabs).same (sm _)) (nn _ nw) upd_same (sm _ _ _ upd_same) (off _ (Nat.le_trans le (Nat.le_of_lt lt)))
end
/-- the lambda as a value -/
def tLamV (X : Cx) (T : List (Addr × Str)) (params : Arguments) (scope : Scope) (body : Expr) : TE := fun _ H Q => Tabs T H ∧ ∀ (f c' : Addr) (H1 : Hp), Gr T H H1 → H f = none → H1 f = some (LamO f (lamF X params scope c') body) → H1 c' = some (CodeO c' (X.env.qual ++ "<lambda>")) → f ∉ frs X.stack → Q (.ref f) H1
theorem pe_lamV {X : Cx} {T : List (Addr × Str)} {c P : Addr} {params : Arguments} {body : Expr} {scope : Scope} {pos : Pos} (TB : TabB X.base X.mg c P) (hcode : X.env.code = .ref c) (hm : (P, X.env.qual ++ "<lambda>") ∈ T) (hu : ∀ p ∈ T, p.1 = P → p.2 = X.env.qual ++ "<lambda>")
    (hdef : defaultsOf params X.env = ([], [])) (hfree : ∀ y ∈ scope.names, y.2 = .free → X.env.scope.names.lookup y.1 = some .cell ∨ X.env.scope.names.lookup y.1 = some .free) : PE X (.Lambda params body scope pos) (tLamV X T params scope body) := by
  refine ⟨fun pins s σ H Q I h => ?_⟩
  obtain ⟨hT, h⟩ := h
  have hfr : ∀ y ∈ scope.names, y.2 = .free → ∃ c, X.env.cells.lookup y.1 = some c := fun y hy e => (hfree y hy e).elim (fun z => I.ok.has _ (.inl z)) fun z => I.ok.has _ (.inr z)
  exact lamV_make I TB hcode hm hu hT hdef hfr fun f c' H1 s' J g n e1 e2 e3 => ⟨.ref f, H1, J, rfl, h f c' H1 g n e1 e2 e3⟩
/-! ### its promise -/
structure NOkL (P : Program) (w : World) (K : PySem.W.Frag) (mg : Str → Option Value) (base : Heap) (CX : CXT) (k : Nat) (f : Addr) (F : NF) (b : Expr) (ps fr : List Str) (sp : List (Option V) → Sp) : Prop where
  run : ∀ (A : Around) (outer : List Env) (s : Shared) (H : Hp) (us : List Value) (vs : List V) (ws : List (Option V)) (Q : VK) (E : XK), Room k A → Env0 P w K mg base A outer s H → H f = some (LamO f F b) → H F.c = some (CodeO F.c F.qual) →
    CellsAt F.cl fr ws s.heap H → Vals vs us → sp ws vs H Q E → codeAny (model P w) A (.call (.ref f) ⟨us, []⟩) (CR CX outer P w H s Q E) s
section
variable {CX : CXT} {P : Program} {w : World} {K : PySem.W.Frag} {mg : Str → Option Value} {base : Heap} {N ps fr : List Str} {F : NF} {b : Expr} {f : Addr} {k : Nat} {sp : List (Option V) → Sp}
theorem nokL_of (S : NScope N ps fr F.scope) (hb : ∀ (pm ctv : Value) (us : List Value), us.length = ps.length → bindArgs (PySem.W.kla_fn "<lambda>" F.qual F.params b F.scope F.cl pm (.ref F.c) ctv) ⟨us, []⟩ = pure (ps.zip us)) (len : ∀ ws vs H Q E, sp ws vs H Q E → vs.length = ps.length)
    (hbody : ∀ (A : Around) (outer : List Env) (s : Shared) (H : Hp) (vs : List V) (ws : List (Option V)) (Q : VK) (E : XK), Room k (A.deeper (envF F f s.heap.objs.size)) → ws.length = fr.length → sp ws vs H Q E →
      ∃ t, PE (ncx CX P w K mg base N F f A outer s H E) b t ∧ t (startF N vs ws) H Q) : NOkL P w K mg base CX (k + 1) f F b ps fr sp := by
  refine ⟨fun A outer s H us vs ws Q E room e0 hf hc C r hsp => ?_⟩
  have many := len _ _ _ _ _ hsp
  obtain ⟨pm, ctv, onF⟩ := lamO_at e0.hok hf
  have lim : s.heap.NoLimit := e0.mod.nolimit.keeps fun c o e => (e0.bs c o e).1
  refine PySem.W.kla_callFunE room.depth onF rfl S.co S.gen rfl (codeO_at e0.hok hc) ?_
  rw [hb pm ctv us (by rw [← r.length]; exact many)]
  refine wpAny_pure (wpAny_newFunctionEnv S.nocell (fun ⟨n, _⟩ hy => S.par n (List.of_mem_zip hy).1) (fun h₁ hns hsb => ⟨lim.fresh _ hsb, ?_⟩) S.kind)
  show codeAny _ _ (.expr b (envF F f s.heap.objs.size)) _ _
  have up : ∀ c o, s.heap.get? c = some o → h₁.get? c = some o := fun c o e => hsb.extBut c o (Nat.ne_of_lt (Heap.lt_size e)) (Heap.get?_push_of_some _ e)
  obtain ⟨t, ht, q⟩ := hbody A outer s H vs ws Q E (room.deeper _) C.len hsp
  have I : Inv (ncx CX P w K mg base N F f A outer s H E) [] (startF N vs ws) H { s with heap := h₁, toks := s.toks + (ps.zip us).length } := inv_startN S room.hd e0 many r C hns up
  refine PySem.W.kla_codeExpr (wpAny_mono (ht.run [] _ _ H Q I q) (fun u s' z => ?_) fun e s' z => z)
  obtain ⟨v, H', J, rv, y⟩ := z
  exact ⟨v, H', J.os, J.bare, J.base, J.hok, rv, y⟩
/-- the cells hold what they held -/
theorem cells_on {cl : List (Str × Addr)} {ws : List (Option V)} {fs : List Addr} {H H1 : Hp} {h h1 : Heap} (C : CellsAt cl fr ws h H) (un : Un fs [] H H1 h h1) : CellsAt cl fr ws h1 H1 := by
  have kp : ∀ y c, cl.lookup y = some c → ∀ v, h.IsCell c v → h1.IsCell c v := fun y c e v ⟨o, a1, a2⟩ => by
    obtain ⟨sl, q⟩ := un.any a1 (C.all y c e).1 (fun z => nomatch z)
    exact ⟨_, q, a2⟩
  refine ⟨C.len, fun y c e => ?_, C.inj, fun i y e => ?_⟩
  · obtain ⟨no, v, z⟩ := C.all y c e
    obtain ⟨o, ho, _⟩ := id z
    exact ⟨un.free c o ho no (fun z => nomatch z), v, kp y c e v z⟩
  · obtain ⟨c, a1, a2⟩ := C.has i y e
    refine ⟨c, a1, fun v ev => ?_⟩
    obtain ⟨u, r, z⟩ := a2 v ev
    exact ⟨u, r, kp y c a1 _ z⟩
end
/-- what is known of the thing at f, and of what it does with what its cells hold -/
def spGot (f : Addr) (F : NF) (b : Expr) (ws : List (Option V)) (sp : List (Option V) → Sp) : Sp := fun vs H Q E => H f = some (LamO f F b) ∧ H F.c = some (CodeO F.c F.qual) ∧ sp ws vs H Q E
section
variable {X : Cx} {CX : CXT} {F : NF} {b : Expr} {ps fr : List Str} {ws : List (Option V)} {i j k : Nat} {f : Addr} {x : Str} {sp : List (Option V) → Sp} {E : XK} {t : TA} {e : Expr} {es : List Expr} {p pos : Pos}
/-- x(..), x a name that holds a lambda of another frame -/
theorem pe_callP (Fn : NOkL X.prog X.w X.K X.mg X.base CX k f F b ps fr sp) (C : CellsAt F.cl fr ws X.s_0.heap X.H_0) (hex : X.ex = []) (hr : Room j X.A) (hk : k ≤ j) (hx : Passes CX X E) (hN : X.N[i]? = some x) (hv : Vis X.env.scope x) (ha : PA X (e :: es) t)
    (hd : (x == ("__debug__" : Str)) = false := by decide) (hcd : (x == ("__classdict__" : Str)) = false := by decide)
    (he : starEach (e :: es) X.env = (false, eval e X.env) :: starEach es X.env := by rfl) (hpl : (backTo pos (starEach es X.env)).any (·.1) = false := by rfl) :
    PE X (.Call (.Name x p) (e :: es) [] pos) (fun σ H Q => σ[i]? = some (some (.ref f)) ∧ H f = some (LamO f F b) ∧ t σ H fun vs H1 => spGot f F b ws sp vs H1 Q E) := by
  refine ⟨fun pins s σ H Q I h => ?_⟩
  obtain ⟨hs, hf, ht⟩ := h
  have at_ : ∀ {H : Hp} {s : Shared}, Inv X pins σ H s → H f = some (LamO f F b) → PySem.W.FnAt f s.heap := fun J e => by
    obtain ⟨pm, ctv, o⟩ := lamO_at J.hok e
    exact ⟨_, _, _, _, o⟩
  refine wpAny_Call_Name_kw (thn ((pe_var (pos := p) hN hv hd hcd).run pins s σ H (fun v H1 => v = .ref f ∧ H1 = H) I ⟨.ref f, hs, rfl, rfl⟩) fun u s1 ⟨v, H1, I1, r1, q1⟩ => ?_)
  obtain ⟨ev, eH⟩ := q1
  subst ev
  rw [eH] at I1
  obtain rfl : u = Value.ref f := r1
  refine PySem.W.callWith_F (first := []) (at_ I1 hf) (thn (ha.run pos pins s1 σ H _ I1 ht) fun us s2 ⟨vs, H2, I2, r, h1, h2, q⟩ => ⟨at_ I2 h1, ?_⟩) he hpl
  show wpAny _ _ (call (.ref f) us) _ _ _
  have un := I2.base
  rw [hex] at un
  refine wpAny_call (codeAny_mono (Fn.run X.A X.stack s2 H2 us vs _ Q E (hr.mono hk) I2.env0 h1 h2 (cells_on C un) r q) fun r s' hq => ?_)
  cases r with
  | error e => exact hx pins σ H2 s2 e s' I2 hq
  | ok fl =>
    cases fl with
    | ret u => exact I2.after hq
    | next => exact False.elim hq
    | brk => exact False.elim hq
    | cont => exact False.elim hq
end
/-! ### a def that gets a lambda to call -/
structure GivesV (P : Program) (w : World) (K : PySem.W.Frag) (mg : Str → Option Value) (base : Heap) (k kl : Nat) (x : Str) (g : Addr) (TT : Addr → Sp → Sp) : Prop where
  m : mg x = some (.ref g)
  kp : PySem.W.keepIn K (.ref g) = true
  run : ∀ (A : Around) (outer : List Env) (f : Addr) (F : NF) (b : Expr) (lps fr : List Str) (ws : List (Option V)) (spl : List (Option V) → Sp) (s : Shared) (H : Hp) (us : List Value) (vs : List V) (Q : VK), Room k A → Env0 P w K mg base A outer s H → NOkL P w K mg base CX0 kl f F b lps fr spl → CellsAt F.cl fr ws s.heap H → H f = some (LamO f F b) → Vals vs us → TT f (spGot f F b ws spl) vs H Q E0 →
    codeAny (model P w) A (.call (.ref g) ⟨us, []⟩) (CR CX0 outer P w H s Q E0) s
theorem givesV_of {P : Program} {w : World} {K : PySem.W.Frag} {mg : Str → Option Value} {base : Heap} {k kl : Nat} {x : Str} {g : Addr} {fd : FuncData} {pg : Arguments} {bg : List Stmt} {sg : Scope} {Ng ps : List Str} {TT : Addr → Sp → Sp}
    (F : FunD K x x pg bg sg [] [] g fd) (hm : mg x = some (.ref g)) (Sg : FnScope Ng ps sg)
    (hb : ∀ (kV doc pm : Value) (an : Option Addr) (cdv ct : Value) (us : List Value), us.length = ps.length → bindArgs (PySem.W.fnOf x x pg bg sg .none kV doc pm an cdv ct) ⟨us, []⟩ = pure (ps.zip us))
    (len : ∀ f c vs H Q E, TT f c vs H Q E → vs.length = ps.length)
    (hG : ∀ (cdg : Value) (A : Around) (outer : List Env) (f : Addr) (F : NF) (b : Expr) (lps fr : List Str) (ws : List (Option V)) (spl : List (Option V) → Sp) (s : Shared) (H : Hp) (vs : List V) (Q : VK), Room k (A.deeper (envOfC x sg s.heap.objs.size g cdg)) → NOkL P w K mg base CX0 kl f F b lps fr spl → CellsAt F.cl fr ws s.heap H → H f = some (LamO f F b) → TT f (spGot f F b ws spl) vs H Q E0 →
      ∃ t, PSs (cxOf CX0 P w K mg base Ng x sg g cdg A outer s H E0).nox bg t ∧ t { nx := fun _ H' => Q .non H', rt := Q } (L2.start Ng vs) H) : GivesV P w K mg base (k + 1) kl x g TT := by
  have bd := FunD.bindsN F hb
  refine ⟨hm, F.kp, fun A outer f FF b lps fr ws spl s H us vs Q room e0 Fn C hf r hT => ?_⟩
  have many := len _ _ _ _ _ _ hT
  obtain ⟨oc, od, dV, kV, doc, pm, an, cdv, ct, osl, rfl, lk, hcd, _, _⟩ := F.ex
  refine run_ofS (N := Ng) (ps := ps) (us := us) (vs := vs) lk hcd Sg room e0 (by
      have z := bd s us (e0.mod.kin.keeps fun c o e => (e0.bs c o e).1) (by rw [List.append_nil, ← r.length]; exact many)
      rw [List.append_nil] at z
      exact z) r many fun room' => ?_
  obtain ⟨t, h1, h2⟩ := hG cdv A outer f FF b lps fr ws spl s H vs Q room' Fn C hf hT
  exact ⟨t, h1.nox, h2⟩
/-- g(lambda, ..): the call -/
def tGiveV (mk : Addr → NF) (b : Expr) (js : List Nat) (TT : Addr → Sp → Sp) (sp : List (Option V) → Sp) (t : TA) : TE := fun σ H Q => t σ H fun vs H1 => ∃ f c', H1 f = some (LamO f (mk c') b) ∧ TT f (spGot f (mk c') b (js.map (slotAt σ)) sp) vs H1 Q E0
theorem pe_giveV {X : Cx} {k kl : Nat} {g : Addr} {TT : Addr → Sp → Sp} {mk : Addr → NF} {cl : List (Str × Addr)} {lps fr : List Str} {js : List Nat} {x : Str} {sp : List (Option V) → Sp} {t : TA} {b e : Expr} {es : List Expr} {p pos : Pos}
    (G : GivesV X.prog X.w X.K X.mg X.base k kl x g TT) (Fn : ∀ f c', NOkL X.prog X.w X.K X.mg X.base CX0 kl f (mk c') b lps fr sp) (hcl : ∀ c', (mk c').cl = cl) (cp : X.Ok → Caps X cl fr js) (hr : Room k X.A) (hg : Gl X x) (ha : PA X (e :: es) t)
    (hdb : (x == ("__debug__" : Str)) = false := by decide) (he : starEach (e :: es) X.env = (false, eval e X.env) :: starEach es X.env := by rfl) (hpl : (backTo pos (starEach es X.env)).any (·.1) = false := by rfl) :
    PE X (.Call (.Name x p) (e :: es) [] pos) (tGiveV mk b js TT sp t) := by
  refine ⟨fun pins s σ H Q I h => ?_⟩
  refine wpAny_Call_Name_kw (ld_glob I hg G.m ?_ hdb)
  refine PySem.W.callWith_K (h₀ := X.base) I.ok.mod.kin G.kp (thn (ha.run pos pins s σ H _ I h) fun us s2 ⟨vs, H2, I2, r, q2⟩ => ⟨I2.kIn, ?_⟩) he hpl
  obtain ⟨f, c', h1, hT⟩ := q2
  have C : CellsAt (mk c').cl fr (js.map (slotAt σ)) s2.heap H2 := by
    rw [hcl c']
    exact cells_of I2 (cp I2.ok)
  show wpAny _ _ (call (.ref g) us) _ _ _
  refine wpAny_call (codeAny_mono (G.run X.A X.stack f (mk c') b lps fr _ sp s2 H2 us vs Q hr I2.env0 (Fn f c') C h1 r hT) fun r s3 hq => ?_)
  cases r with
  | error e => exact (show False from hq).elim
  | ok fl =>
    cases fl with
    | ret u => exact I2.after hq
    | next => exact False.elim hq
    | brk => exact False.elim hq
    | cont => exact False.elim hq
/-- a def whose own code object is known -/
theorem FunD_okC {P : Program} {w : World} {K : PySem.W.Frag} {mg : Str → Option Value} {base : Heap} {x qual : Str} {params : Arguments} {body : List Stmt} {scope : Scope} {dvs : List V} {kws : List (Str × V)} {f c : Addr} {fd : FuncData} {CX : CXT} {N ps : List Str} {k : Nat} {sp : Sp} (F : FunD K x qual params body scope dvs kws f fd) (hc : fd.code = .ref c) (S : FnScope N ps scope) (len : ∀ vs H Q E, sp vs H Q E → vs.length = ps.length)
    (hbody : ∀ (A : Around) (outer : List Env) (s : Shared) (H : Hp) (vs : List V) (Q : VK) (E : XK), Room k (A.deeper (envOfC qual scope s.heap.objs.size f (.ref c))) → sp vs H Q E →
      ∃ t, PSs (cxOf CX P w K mg base N qual scope f (.ref c) A outer s H E) body t ∧ t { nx := fun _ H' => Q .non H', rt := Q } (start N vs) H) : FnOk P w K mg base CX (k + 1) f fd ps sp := by
  obtain ⟨oc, od, dV, kV, doc, pm, an, cdv, ct, osl, rfl, lk, hcd, _, _⟩ := F.ex
  obtain rfl : cdv = .ref c := hc
  exact fn_of lk hcd S len fun A outer s H vs Q E hr hsp => hbody A outer s H vs Q E hr hsp
end Xh
end
section
set_option Elab.async false
set_option linter.all false
set_option maxRecDepth 100000
set_option maxHeartbeats 2000000
/-! own classes: a method by its name, a new thing, by what is promised -/
namespace Xh
open PySem PySem.Spec PyProof.Rows L2
/-- a method of the class at C: its promise, its defaults -/
structure OwnM (P : Program) (w : World) (K : PySem.W.Frag) (mg : Str → Option Value) (base : Heap) (CX : CXT) (k : Nat) (C : Addr) (m : Str) (ps : List Str) (dvs : List V) (sp : Sp) : Prop where
  ex : ∃ (f : Addr) (fd : FuncData) (ds : List Value), FnOk P w K mg base CX k f fd ps sp ∧ Meth K C m f ∧ Cls K C ∧ Binds K fd ps ds ∧ Vals dvs ds
/-- the class called x: how a thing of it is made -/
structure OwnC (P : Program) (w : World) (K : PySem.W.Frag) (mg : Str → Option Value) (base : Heap) (CX : CXT) (k : Nat) (x : Str) (C : Addr) (ps : List Str) (dvs : List V) (sp : Sp) : Prop where
  ex : ∃ (f : Addr) (fd : FuncData) (ds : List Value), FnOk P w K mg base CX k f fd ps sp ∧ Mk K C f ∧ mg x = some (.ref C) ∧ Binds K fd ps ds ∧ Vals dvs ds
/-- .. with keywords behind -/
structure OwnCK (P : Program) (w : World) (K : PySem.W.Frag) (mg : Str → Option Value) (base : Heap) (CX : CXT) (k n : Nat) (x : Str) (C : Addr) (ps ks : List Str) (sp : Sp) : Prop where
  ex : ∃ (f : Addr) (fd : FuncData), FnOk P w K mg base CX k f fd ps sp ∧ Mk K C f ∧ mg x = some (.ref C) ∧ KBn K fd ps (n + 1) ks (fun us ws => us ++ ws) (fun vs zs => vs ++ zs)
section
variable {P : Program} {w : World} {K : PySem.W.Frag} {mg : Str → Option Value} {base : Heap} {CX : CXT} {j k n : Nat} {x m : Str} {C : Addr} {ps ks : List Str} {dvs : List V} {sp sp' : Sp}
theorem ownM_of {q : Str} {params : Arguments} {body : List Stmt} {scope : Scope} {f : Addr} {fd : FuncData} (F : FunD K m q params body scope [] [] f fd) (G : FnOk P w K mg base CX k f fd ps sp) (M : Meth K C m f) (c : Cls K C)
    (h : ∀ (kV doc pm : Value) (an : Option Addr) (cdv ct : Value) (us : List Value), us.length = ps.length → bindArgs (PySem.W.fnOf m q params body scope .none kV doc pm an cdv ct) ⟨us, []⟩ = pure (ps.zip us)) : OwnM P w K mg base CX k C m ps [] sp :=
  ⟨f, fd, [], G, M, c, FunD.bindsN F h, .nil⟩
theorem ownM_of0 {q : Str} {params : Arguments} {body : List Stmt} {scope : Scope} {f : Addr} {fd : FuncData} {kws : List (Str × V)} (F : FunD K m q params body scope [] kws f fd) (G : FnOk P w K mg base CX k f fd ps sp) (M : Meth K C m f) (c : Cls K C) (n : Nat) (hk : kws ≠ []) (hn : n + kws.length = ps.length)
    (h : ∀ (D : Addr) (doc pm : Value) (an : Option Addr) (cdv ct : Value) (us ks : List Value), us.length = n → ks.length = kws.length →
      KwChain D ((kws.map (·.1)).zip ks) (bindArgs (PySem.W.fnOf m q params body scope .none (.ref D) doc pm an cdv ct) ⟨us, []⟩) (ps.zip (us ++ ks))) : OwnM P w K mg base CX k C m ps (kws.map (·.2)) sp := by
  obtain ⟨ds, r, b⟩ := FunD.binds0 F n hk hn h
  exact ⟨f, fd, ds, G, M, c, b, r⟩
theorem ownC_of {q : Str} {params : Arguments} {body : List Stmt} {scope : Scope} {f : Addr} {fd : FuncData} (F : FunD K "__init__" q params body scope [] [] f fd) (G : FnOk P w K mg base CX k f fd ps sp) (M : Mk K C f) (c : mg x = some (.ref C))
    (h : ∀ (kV doc pm : Value) (an : Option Addr) (cdv ct : Value) (us : List Value), us.length = ps.length → bindArgs (PySem.W.fnOf "__init__" q params body scope .none kV doc pm an cdv ct) ⟨us, []⟩ = pure (ps.zip us)) : OwnC P w K mg base CX k x C ps [] sp :=
  ⟨f, fd, [], G, M, c, FunD.bindsN F h, .nil⟩
theorem ownC_of0 {q : Str} {params : Arguments} {body : List Stmt} {scope : Scope} {f : Addr} {fd : FuncData} {kws : List (Str × V)} (F : FunD K "__init__" q params body scope [] kws f fd) (G : FnOk P w K mg base CX k f fd ps sp) (M : Mk K C f) (c : mg x = some (.ref C)) (n : Nat) (hk : kws ≠ []) (hn : n + kws.length = ps.length)
    (h : ∀ (D : Addr) (doc pm : Value) (an : Option Addr) (cdv ct : Value) (us ks : List Value), us.length = n → ks.length = kws.length →
      KwChain D ((kws.map (·.1)).zip ks) (bindArgs (PySem.W.fnOf "__init__" q params body scope .none (.ref D) doc pm an cdv ct) ⟨us, []⟩) (ps.zip (us ++ ks))) : OwnC P w K mg base CX k x C ps (kws.map (·.2)) sp := by
  obtain ⟨ds, r, b⟩ := FunD.binds0 F n hk hn h
  exact ⟨f, fd, ds, G, M, c, b, r⟩
theorem ownCK_of {q : Str} {params : Arguments} {body : List Stmt} {scope : Scope} {f : Addr} {fd : FuncData} {kws : List (Str × V)} (F : FunD K "__init__" q params body scope [] kws f fd) (G : FnOk P w K mg base CX k f fd ps sp) (M : Mk K C f) (c : mg x = some (.ref C))
    (h : ∀ (kV doc pm : Value) (an : Option Addr) (cdv ct : Value) (us ws : List Value), us.length = n + 1 → ws.length = ks.length → bindArgs (PySem.W.fnOf "__init__" q params body scope .none kV doc pm an cdv ct) ⟨us, ks.zip ws⟩ = pure (ps.zip (us ++ ws))) : OwnCK P w K mg base CX k n x C ps ks sp := by
  obtain ⟨oc, od, dV, kV, doc, pm, an, cdv, ct, osl, rfl, lk, hcd, hD, hK⟩ := F.ex
  rcases hD with ⟨_, rfl⟩ | ⟨e, _⟩
  · exact ⟨f, _, G, M, c, ⟨fun s us ws X l1 l2 => .of_eq (h kV doc pm an cdv ct us ws l1 l2), fun r1 r2 => r1.append r2⟩⟩
  · exact absurd rfl e
end
section
variable {X : Cx} {CX : CXT} {k n : Nat} {C : Addr} {x m : Str} {ps ks : List Str} {dvs : List V} {sp : Sp} {E : XK} {p pos apos : Pos} {o e : Expr} {es : List Expr} {kws : List Keyword} {ta : TE} {t tk : TA}
theorem pe_ownM {pl : Sem Bool} (O : OwnM X.prog X.w X.K X.mg X.base CX k C m ps dvs sp) (hr : Room k X.A) (hx : Passes CX X E) (he : PE X o ta) (ha : PA X (e :: es) t)
    (hst : starEach (e :: es) X.env = (false, eval e X.env) :: starEach es X.env := by rfl) (hpl : (backTo pos (starEach es X.env)).any (·.1) = false := by rfl)
    (ht : eval (.Call (.Attribute o m apos) (e :: es) [] pos) X.env = (do
      let ov ← eval o X.env
      standAt apos.atName
      let (f, first) ← holding [ov] (getMethod ov m pl)
      callWith pos f first (backTo pos (starEach (e :: es) X.env)) (backToKw pos (keywordEach [] X.env))) := by rfl) :
    PE X (.Call (.Attribute o m apos) (e :: es) [] pos) (tMeth C m sp dvs E ta t) := by
  obtain ⟨f, fd, ds, F, M, c, b, r⟩ := O.ex
  exact pe_meth he c M F hr b r hx ha hst hpl ht
theorem pe_ownM0 {pl : Sem Bool} (O : OwnM X.prog X.w X.K X.mg X.base CX k C m ps dvs sp) (hr : Room k X.A) (hx : Passes CX X E) (he : PE X o ta)
    (ht : eval (.Call (.Attribute o m apos) [] [] pos) X.env = (do
      let ov ← eval o X.env
      standAt apos.atName
      let (f, first) ← holding [ov] (getMethod ov m pl)
      callWith pos f first (backTo pos (starEach [] X.env)) (backToKw pos (keywordEach [] X.env))) := by rfl) :
    PE X (.Call (.Attribute o m apos) [] [] pos) (tMeth C m sp dvs E ta tNil) := by
  obtain ⟨f, fd, ds, F, M, c, b, r⟩ := O.ex
  exact pe_meth0 he c M F hr b r hx ht
theorem pe_ownC (O : OwnC X.prog X.w X.K X.mg X.base CX k x C ps dvs sp) (hr : Room (k + 1) X.A) (hg : Gl X x) (hx : Passes CX X E) (ha : PA X (e :: es) t) (hdb : (x == ("__debug__" : Str)) = false := by decide)
    (he : starEach (e :: es) X.env = (false, eval e X.env) :: starEach es X.env := by rfl) (hpl : (backTo pos (starEach es X.env)).any (·.1) = false := by rfl) : PE X (.Call (.Name x p) (e :: es) [] pos) (tMake C sp dvs E t) := by
  obtain ⟨f, fd, ds, F, M, c, b, r⟩ := O.ex
  exact pe_make M F hr hg c b r hx ha hdb he hpl
theorem pe_ownCK (O : OwnCK X.prog X.w X.K X.mg X.base CX k n x C ps ks sp) (hr : Room (k + 1) X.A) (hg : Gl X x) (hx : Passes CX X E)
    (ha : PA X (e :: es) t) (hkw : PK X kws tk) (hall : (backToKw pos (keywordEach kws X.env)).all (·.1.isSome) = true := by rfl) (hks : (backToKw pos (keywordEach kws X.env)).filterMap (·.1) = ks := by rfl)
    (hdb : (x == ("__debug__" : Str)) = false := by decide) (he : starEach (e :: es) X.env = (false, eval e X.env) :: starEach es X.env := by rfl)
    (hpl : ((backTo pos (starEach (e :: es) X.env)).any (·.1) || (backToKw pos (keywordEach kws X.env)).any (·.1.isNone)) = false := by rfl) :
    PE X (.Call (.Name x p) (e :: es) kws pos) (tMakeN C n ks.length sp (fun vs zs => vs ++ zs) E t tk) := by
  obtain ⟨f, fd, F, M, c, b⟩ := O.ex
  exact pe_makeN M F hr hg c b hx ha hkw hall hks hdb he hpl
end
/-- a method with keywords behind -/
structure OwnMK (P : Program) (w : World) (K : PySem.W.Frag) (mg : Str → Option Value) (base : Heap) (CX : CXT) (k n : Nat) (C : Addr) (m : Str) (ps ks : List Str) (sp : Sp) : Prop where
  ex : ∃ (f : Addr) (fd : FuncData), FnOk P w K mg base CX k f fd ps sp ∧ Meth K C m f ∧ Cls K C ∧ KBn K fd ps (n + 1) ks (fun us ws => us ++ ws) (fun vs zs => vs ++ zs)
theorem ownMK_of {P : Program} {w : World} {K : PySem.W.Frag} {mg : Str → Option Value} {base : Heap} {CX : CXT} {k n : Nat} {m : Str} {C : Addr} {ps ks : List Str} {sp : Sp} {q : Str} {params : Arguments} {body : List Stmt} {scope : Scope} {f : Addr} {fd : FuncData} {kws : List (Str × V)} (F : FunD K m q params body scope [] kws f fd) (G : FnOk P w K mg base CX k f fd ps sp) (M : Meth K C m f) (c : Cls K C)
    (h : ∀ (kV doc pm : Value) (an : Option Addr) (cdv ct : Value) (us ws : List Value), us.length = n + 1 → ws.length = ks.length → bindArgs (PySem.W.fnOf m q params body scope .none kV doc pm an cdv ct) ⟨us, ks.zip ws⟩ = pure (ps.zip (us ++ ws))) : OwnMK P w K mg base CX k n C m ps ks sp := by
  obtain ⟨oc, od, dV, kV, doc, pm, an, cdv, ct, osl, rfl, lk, hcd, hD, hK⟩ := F.ex
  rcases hD with ⟨_, rfl⟩ | ⟨e, _⟩
  · exact ⟨f, _, G, M, c, ⟨fun s us ws X l1 l2 => .of_eq (h kV doc pm an cdv ct us ws l1 l2), fun r1 r2 => r1.append r2⟩⟩
  · exact absurd rfl e
/-- o.m(e, .., k = v) -/
def tMethN (C : Addr) (m : Str) (n l : Nat) (sp : Sp) (E : XK) (ta : TE) (t tk : TA) : TE := fun σ H Q => ta σ H fun x H1 => ∃ a dx fs, x = .ref a ∧ H1 a = some (.ins C dx fs) ∧ fs.lookup m = none ∧
  t σ H1 fun vs H2 => tk σ H2 fun zs H3 => vs.length = n ∧ zs.length = l ∧ sp (x :: (vs ++ zs)) H3 Q E
section
variable {X : Cx} {CX : CXT} {k n : Nat} {C : Addr} {m : Str} {ps ks : List Str} {sp : Sp} {E : XK} {pos apos : Pos} {o e : Expr} {es : List Expr} {kws : List Keyword} {ta : TE} {t tk : TA}
theorem pe_ownMK {pl : Sem Bool} (O : OwnMK X.prog X.w X.K X.mg X.base CX k n C m ps ks sp) (hr : Room k X.A) (hx : Passes CX X E) (he : PE X o ta) (ha : PA X (e :: es) t) (hkw : PK X kws tk)
    (hall : (backToKw pos (keywordEach kws X.env)).all (·.1.isSome) = true := by rfl) (hks : (backToKw pos (keywordEach kws X.env)).filterMap (·.1) = ks := by rfl)
    (hst : starEach (e :: es) X.env = (false, eval e X.env) :: starEach es X.env := by rfl)
    (hpl : ((backTo pos (starEach (e :: es) X.env)).any (·.1) || (backToKw pos (keywordEach kws X.env)).any (·.1.isNone)) = false := by rfl)
    (ht : eval (.Call (.Attribute o m apos) (e :: es) kws pos) X.env = (do
      let ov ← eval o X.env
      standAt apos.atName
      let (f, first) ← holding [ov] (getMethod ov m pl)
      callWith pos f first (backTo pos (starEach (e :: es) X.env)) (backToKw pos (keywordEach kws X.env))) := by rfl) :
    PE X (.Call (.Attribute o m apos) (e :: es) kws pos) (tMethN C m n ks.length sp E ta t tk) := by
  obtain ⟨f, fd, F, M, c, b⟩ := O.ex
  refine ⟨fun pins s σ H Q I h => ?_⟩
  refine PySem.W.methodCall_KW (pl := pl) (thn (he.run pins s σ H _ I h) fun u s1 ⟨x, H1, I1, rx, a, dx, fs, ex, ea, l, q⟩ => ?_) ht
  subst ex
  obtain rfl : u = Value.ref a := rx
  refine getmeth_ok I1 ea c M l ?_
  refine PySem.W.callWith_KW (first := [.ref a]) (h₀ := X.base) I.ok.mod.kin M.kp hall (thn (ha.run pos pins s1 σ H1 _ I1 q) fun us s2 ⟨vs, H2, I2, r, q2⟩ => ?_) hpl hst
  refine thn (hkw.run pos pins s2 σ H2 _ I2 q2) fun ws s3 ⟨zs, H3, I3, rz, l1, l2, q3⟩ => ⟨I3.kIn, ?_⟩
  rw [hks]
  exact run_fnN (us := .ref a :: us) (vs := .ref a :: vs) F hr b hx I3 (.cons rfl r) rz (congrArg (· + 1) l1) l2 q3
end
end Xh
end
section
set_option Elab.async false
set_option linter.all false
set_option maxRecDepth 100000
set_option maxHeartbeats 2000000
/-! C.m(..): a plain def of an own class, called by the class; own exceptions with one field -/
namespace Xh
open PySem PySem.Spec PyProof.Rows L2
/-- C.m is g -/
structure CDef (K : PySem.W.Frag) (C g : Addr) (m : Str) : Prop where
  rd : ClX.CRead K C (.type "type")
  at_ : PySem.W.findCls K (.ref C) (.type "type") m = some (.val (.ref g))
  ty : PySem.W.typeIn K (.ref C) = some (.type "type")
  kp : PySem.W.keepIn K (.ref g) = true
/-- C.m(..) -/
def tCDef (sp : Sp) (E : XK) (t : TA) : TE := fun σ H Q => t σ H fun vs H2 => sp vs H2 Q E
theorem pe_cdef {X : Cx} {CX : CXT} {k : Nat} {C g : Addr} {x m : Str} {sp : Sp} {E : XK} {t : TA} {e : Expr} {es : List Expr} {np apos pos : Pos} {pl : Sem Bool} (hg : Gl X x) (hm : X.mg x = some (.ref C)) (c : CDef X.K C g m) (F : FnR X.prog X.w X.K X.mg X.base CX k g sp) (hr : Room k X.A) (hx : Passes CX X E) (ha : PA X (e :: es) t)
    (he : starEach (e :: es) X.env = (false, eval e X.env) :: starEach es X.env := by rfl) (hpl : (backTo pos (starEach es X.env)).any (·.1) = false := by rfl) (hdb : (x == ("__debug__" : Str)) = false := by decide)
    (hc : eval (.Call (.Attribute (.Name x np) m apos) (e :: es) [] pos) X.env = (do
      let ov ← eval (.Name x np) X.env
      standAt apos.atName
      let (f, first) ← holding [ov] (getMethod ov m pl)
      callWith pos f first (backTo pos (starEach (e :: es) X.env)) []) := by rfl) :
    PE X (.Call (.Attribute (.Name x np) m apos) (e :: es) [] pos) (tCDef sp E t) := by
  refine ⟨fun pins s σ H Q I h => ?_⟩
  obtain ⟨mm, FR⟩ := I.fr
  refine PyProof.Rows.MethodCall_ (pl := pl) (ld_glob I hg hm (PySem.W.method_of_cls FR I.ok.mod.kin c.rd.ga (PySem.W.cls_val FR I.ok.mod.kin c.ty c.rd.rd c.at_ rfl ?_)) hdb) hc
  have I2 := I.tok (s.toks + 1)
  refine PySem.W.callWith_K (h₀ := X.base) I2.ok.mod.kin c.kp (thn (ha.run pos pins _ σ H _ I2 h) fun us s2 ⟨vs, H2, I3, r, q⟩ => ⟨I3.kIn, ?_⟩) he hpl
  show wpAny _ _ (call (.ref g) us) _ _ _
  refine wpAny_call (codeAny_mono (F X.A X.stack s2 H2 us vs Q E hr I3.env0 r q) fun r s3 hq => ?_)
  cases r with
  | error er => exact hx pins σ _ _ er s3 I3 hq
  | ok fl =>
    cases fl with
    | ret u => exact I3.after hq
    | next => exact False.elim hq
    | brk => exact False.elim hq
    | cont => exact False.elim hq
/-- what C.__init__(self, y) promises: the word, and y in the field -/
def spFI (K : PySem.W.Frag) (f : Str) : Sp := fun vs H Q E => ∃ (a C : Addr) (nm : Str) (y : V), vs = [.ref a, y] ∧ RC K C nm ∧ PySem.W.findIn K (.ref C) "word" = some none ∧ PySem.W.findIn K (.ref C) f = some none ∧ H a = some (exo a C none) ∧
  ∀ H1 dx, H dx = none → dx ≠ a → Same H H1 → H1 dx = none → Q .non (upd (upd (upd H1 dx (exd dx [("word", .str nm)])) a (exo a C (some dx))) dx (exd dx [(f, y), ("word", .str nm)]))
/-- a class with a field of its own -/
structure RXF (K : PySem.W.Frag) (mg : Str → Option Value) (C fI : Addr) (nm f : Str) : Prop where
  c : RC K C nm
  w : PySem.W.findIn K (.ref C) "word" = some none
  fd : PySem.W.findIn K (.ref C) f = some none
  i : PySem.W.findIn K (.ref C) "__init__" = some (some (.ref fI))
  t : PySem.W.typeIn K (.ref fI) = some (.type "function")
  g : mg nm = some (.ref C)
/-- raise C(y) -/
theorem pmk_field {X : Cx} {C fI : Addr} {nm f x0 : Str} {p pos : Pos} {e : Expr} {fd : FuncData} {ta : TA} {k : Nat} (T : RXF X.K X.mg C fI nm f) (F : FnOk X.prog X.w X.K X.mg X.base (L2.CX X.prog X.w) k fI fd ["self", x0] (spFI X.K f)) (hr : Room (k + 1) X.A) (hb : Binds X.K fd ["self", x0] []) (hg : Gl X nm) (ha : PA X [e] ta)
    (hdb : (nm == ("__debug__" : Str)) = false := by decide) (he : starEach [e] X.env = (false, eval e X.env) :: starEach [] X.env := by rfl) (hpl : (backTo pos (starEach [] X.env)).any (·.1) = false := by rfl) : PMk X (.Call (.Name nm p) [e] [] pos) (tMkO C (spFI X.K f) [] ta) :=
  pmk_oex T.c.o T.i T.t F hr hb .nil passL hg T.g ha hdb he hpl
/-- .. what it wants: its word, its field -/
theorem mkF {K : PySem.W.Frag} {mg : Str → Option Value} {C fI : Addr} {nm f : Str} (T : RXF K mg C fI nm f) {y : V} {H1 : Hp} {Q : XK} (h : ∀ (d : Addr) (H' : Hp), Same H1 H' → H' d = some (.xd [(f, y), ("word", .str nm)]) → H1 d = none → Q (.ref C) (some d) H') :
    [y].length ≤ 1000 ∧ ∀ a, H1 a = none → spFI K f (.ref a :: ([y] ++ [])) (upd H1 a (exo a C none)) (fun v H2 => v = .non ∧ ∃ (d : Addr) (fs : List (Str × V)), H2 a = some (exo a C (some d)) ∧ H2 d = some (exd d fs) ∧ H1 d = none ∧ Q (.ref C) (some d) (upd (del H2 a) d (.xd fs))) (fun _ _ _ => False) := by
  refine ⟨by show 1 ≤ 1000; decide, fun a ha => ⟨a, C, nm, y, rfl, T.c, T.w, T.fd, upd_same, fun H2 dx hdx hne hs h2 => ⟨rfl, dx, _, by rw [upd_ne (Ne.symm hne), upd_same], upd_same, by rw [upd_ne hne] at hdx; exact hdx, ?_⟩⟩⟩
  have hdx' : H1 dx = none := by rw [upd_ne hne] at hdx; exact hdx
  refine h dx _ (fun b o e => ?_) upd_same hdx'
  have n2 : b ≠ a := ne_of_none e ha
  have n3 : b ≠ dx := ne_of_none e hdx'
  rw [upd_ne n3, del_ne n2, upd_ne n3, upd_ne n2, upd_ne n3]
  exact hs b o (by rw [upd_ne n2]; exact e)
section
variable {P : Program} {w : World} {K : PySem.W.Frag} {mg : Str → Option Value} {base : Heap}
/-- __init__(self, y): RungError.__init__(self); self.f = y -/
theorem ok_finit {st : Stmt} {g fI R : Addr} {fd : FuncData} {q x0 f : Str} (F : FunD K "__init__" q (defArgs st) (defBody st) (defScope st) [] [] g fd) (S : FnScope ([("self" : Str), x0]) [("self" : Str), x0] (defScope st))
    (body : ∀ X : Cx, X.K = K → X.prog = P → X.w = w → X.mg = mg → X.base = base → X.N = [("self" : Str), x0] → X.env.scope = defScope st → Room 1 X.A → Passes (L2.CX P w) X (fun _ _ _ => False) → PSs X (defBody st) (tSeq (tDrop (tCDef (spRI1 K) (fun _ _ _ => False) (tCons (tVar 0) tNil))) (tOst K f (tVar 0) (tVar 1)))) : FnOk P w K mg base (L2.CX P w) 2 g fd ["self", x0] (spFI K f) := by
  refine F.ok S (fun vs H Q E h => ?_) (fun cdv A outer s H vs Q E hr h => ?_)
  · obtain ⟨a, C, nm, y, rfl, _⟩ := h
    rfl
  · obtain ⟨a, C, nm, y, rfl, T, hw, hf, ha, k⟩ := h
    refine ⟨_, body _ rfl rfl rfl rfl rfl rfl rfl (hr.mono (by decide)) passL, ?_⟩
    refine ⟨_, rfl, a, C, nm, rfl, T, hw, ha, fun H1 dx hdx hne hs h1 => ?_⟩
    refine ⟨_, rfl, _, rfl, a, C, rfl, T.o, hf, .inr ⟨dx, _, upd_same, by rw [upd_ne hne, upd_same], by show 1 ≤ 900; decide, ?_⟩⟩
    exact k H1 dx hdx hne hs h1
end
end Xh
end
section
set_option Elab.async false
set_option linter.all false
set_option maxRecDepth 100000
set_option maxHeartbeats 2000000
/-! list(text); text * 0 and text * 1 -/
namespace Xh
open PySem PySem.Spec PyProof.Rows L2
section
variable {X : Cx}
theorem vals_signs {x : Str} {acc : Array Value} (h : ItemsOf (SignAt x) acc x.cps.size) : Vals ((signs x).map V.str) acc.toList := by
  have key : ∀ (l : List Nat) (us : List Value), us.length = l.length → (∀ (j : Nat) (v : Value), us[j]? = some v → ∃ c u, l[j]? = some c ∧ v = .str ⟨#[c]⟩ u) → Vals ((l.map fun n => (⟨#[n]⟩ : Str)).map V.str) us := by
    intro l
    induction l with
    | nil =>
      intro us hl _
      cases us with
      | nil => exact .nil
      | cons u us => cases hl
    | cons c l ih =>
      intro us hl hv
      cases us with
      | nil => cases hl
      | cons u us =>
        obtain ⟨c', t, e1, e2⟩ := hv 0 u rfl
        cases e1
        exact .cons ⟨t, e2⟩ (ih us (Nat.succ.inj hl) fun j v e => hv (j + 1) v e)
  refine key x.cps.toList acc.toList (by rw [Array.length_toList, Array.length_toList]; exact h.1) fun j v e => ?_
  obtain ⟨c, u, hc, rfl⟩ := h.2 j v (by rw [← e, Array.getElem?_toList])
  exact ⟨c, u, by rw [Array.getElem?_toList]; exact hc, rfl⟩
theorem call_listS (hc : X.calm = true) : CallR X (.type "list") (fun xs H Q => ∃ a : Str, xs = [.str a] ∧ a.length ≤ sizeLine ∧ ∀ p, H p = none → Q (.ref p) (upd H p (.lst ((signs a).map V.str)))) := by
  intro pins s σ H xs us Q I r h
  obtain ⟨a, rfl, hz, q⟩ := h
  obtain ⟨u, rfl, rx⟩ := vals1 r
  obtain ⟨t, rfl⟩ := rx
  refine call_list_str (I.ok.hd hc) a t (hn := hz) fun h' tk acc c' hk e' hi => ?_
  refine ⟨.ref s.heap.objs.size, upd H s.heap.objs.size (.lst ((signs a).map V.str)), I.laid hk (Nat.le_refl _) (show ObjOk X.prog X.w _ _ _ (.lst ((signs a).map V.str)) from ⟨?_, acc.toList, c', vals_signs hi, ?_⟩), rfl, q _ (I.hok.fresh (Nat.le_refl _))⟩
  · rw [List.length_map, signs_length]
    exact hz
  · rw [Array.toArray_toList]
    exact e'
theorem op_mulS : OpR X (binaryOp .Mult) (fun x y H Q => ∃ (a : Str) (k : Int), x = .str a ∧ y = .int k ∧ 0 ≤ k ∧ k ≤ 1 ∧ Q (.str (if k = 0 then Str.empty else a)) H) := by
  intro pins s σ H x y v u Q I rx ry h
  obtain ⟨a, k, rfl, rfl, h0, h1, q⟩ := h
  obtain ⟨t, rfl⟩ := rx
  obtain ⟨t', rfl⟩ := ry
  by_cases e : k = 0
  · subst e
    rw [if_pos rfl] at q
    exact P.mul_str_none (by decide) (by decide) ⟨.str Str.empty, H, I.tok _, ⟨_, rfl⟩, q⟩
  · have e1 : k = 1 := by omega
    subst e1
    rw [if_neg (by decide)] at q
    refine P.mul_str (by decide) (fun _ z => by simp at z) (fun _ z => by simp at z) ?_
    rw [if_neg (by decide), if_pos (by simp)]
    exact ⟨.str a, H, I, ⟨_, rfl⟩, q⟩
end
end Xh
end
section
set_option Elab.async false
set_option linter.all false
set_option maxRecDepth 100000
set_option maxHeartbeats 2000000
/-! text * k, for short texts -/
namespace Xh
open PySem PySem.Spec PyProof.Rows L2
theorem fold_reps (c : Array Nat) : ∀ (k : Nat) (acc : Array Nat), ((List.replicate k c).foldl (· ++ ·) acc).toList = acc.toList ++ (List.replicate k c.toList).flatten
  | 0, acc => by simp
  | k + 1, acc => by
    rw [List.replicate_succ, List.foldl_cons, fold_reps c k, List.replicate_succ, List.flatten_cons, Array.toList_append, List.append_assoc]
section
variable {X : Cx}
theorem op_mulZ : OpR X (binaryOp .Mult) (fun x y H Q => ∃ (a : Str) (k : Nat), x = .str a ∧ y = .int (k : Int) ∧ a.length ≤ 10 ∧ k ≤ 100 ∧ ∀ z : Str, TL.tl z = (List.replicate k (TL.tl a)).flatten → Q (.str z) H) := by
  intro pins s σ H x y v u Q I rx ry h
  obtain ⟨a, k, rfl, rfl, la, lk, q⟩ := h
  obtain ⟨t, rfl⟩ := rx
  obtain ⟨t', rfl⟩ := ry
  by_cases e : k = 0
  · subst e
    exact P.mul_str_none (by decide) (by decide) ⟨.str Str.empty, H, I.tok _, ⟨_, rfl⟩, q _ rfl⟩
  · have hm : a.length * k ≤ 1000 := by
      have := Nat.mul_le_mul la lk
      omega
    refine P.mul_str (by
      have h1 : decide ((k : Int) < -(2 ^ 63 : Int)) = false := decide_eq_false (by omega)
      have h2 : decide ((k : Int) ≥ 2 ^ 63) = false := decide_eq_false (by omega)
      rw [h1, h2]; rfl) (fun _ _ => ?_) (fun _ _ => ?_) ?_
    · intro z
      have h1 : (2 ^ 63 - 1 : Int) / 100 ≤ (2 ^ 63 - 1) / (k : Int) := by
        refine Int.le_ediv_of_mul_le (by omega) ?_
        have : (2 ^ 63 - 1 : Int) / 100 * (k : Int) ≤ (2 ^ 63 - 1 : Int) / 100 * 100 := Int.mul_le_mul_of_nonneg_left (by omega) (by decide)
        have h3 : (2 ^ 63 - 1 : Int) / 100 * 100 ≤ 2 ^ 63 - 1 := by decide
        omega
      have h2 : (10 : Int) ≤ (2 ^ 63 - 1 : Int) / 100 := by decide
      omega
    · rw [Int.toNat_natCast]
      unfold Builtin.Str.tooLong
      have hs : 1000 ≤ sizeLine := by decide
      exact decide_eq_false (by omega)
    · rw [if_neg (by omega)]
      by_cases g : ((k : Int) == 1 || a.length == 0) = true
      · rw [if_pos g]
        refine ⟨.str a, H, I, ⟨_, rfl⟩, q _ ?_⟩
        rw [Bool.or_eq_true] at g
        rcases g with g | g
        · have : k = 1 := by
            have := eq_of_beq g
            omega
          rw [this]
          simp
        · have : TL.tl a = [] := by
            have := eq_of_beq g
            rw [TL.len_tl] at this
            exact List.length_eq_zero_iff.mp this
          rw [this]
          simp
      · rw [if_neg g]
        have ez := fold_reps a.cps k #[]
        rw [List.nil_append] at ez
        refine ⟨?_, .str _, H, I.tok _, ⟨_, rfl⟩, q _ ?_⟩
        · have hs : 1000 ≤ sizeLine := by decide
          rw [TL.len_tl]
          show ((List.replicate (k : Int).toNat a.cps).foldl (· ++ ·) #[]).toList.length ≤ sizeLine
          rw [Int.toNat_natCast, ez]
          have : ((List.replicate k a.cps.toList).flatten).length = k * a.length := by
            rw [List.length_flatten, List.map_replicate, List.sum_replicate_nat]
            rfl
          show ((List.replicate k a.cps.toList).flatten).length ≤ sizeLine
          rw [this, Nat.mul_comm]
          omega
        · rw [Int.toNat_natCast]
          exact ez
end
end Xh
end
section
set_option Elab.async false
set_option linter.all false
set_option maxRecDepth 100000
set_option maxHeartbeats 2000000
/-! the keys of a dict of the module as a list -/
namespace Xh
open PySem PySem.Spec PyProof.Rows L2
/-- at a: a written dict with these words as keys, in this order -/
def KKeys (K : PySem.W.Frag) (w : World) (a : Addr) (ks : List Str) : Prop := ∃ es n, KDict K w a es n ∧ es.toList.map He.keyOf = He.keysIn w.params ks ∧ ks.Nodup
theorem kk_of {K : PySem.W.Frag} {w : World} {a : Addr} {ks : List Str} (h : He.dicW K a = some (He.keysIn w.params ks)) (nd : ks.Nodup) : KKeys K w a ks := by
  obtain ⟨es, n, D⟩ := He.dicW_ok h
  refine ⟨es, n, D, ?_, nd⟩
  unfold He.dicW at h
  rw [D.at_] at h
  have h : (match decide (("dict" : String) = "dict") && ((#[] : Array (Option Value)).isEmpty && !(a == sysModules)) with
    | true => some (es.toList.map He.keyOf)
    | false => none) = some (He.keysIn w.params ks) := h
  rw [D.low] at h
  exact Option.some.inj h
theorem kk_pairs {P : Program} {w : World} : ∀ {es : List DictEntry} {ks : List Str}, es.map He.keyOf = He.keysIn w.params ks → ∃ kvs : List (Str × Value), Pairs (strKind P w) es kvs ∧ kvs.map (·.1) = ks
  | [], [], _ => ⟨[], .nil, rfl⟩
  | [], k :: ks, h => by cases h
  | e :: es, [], h => by cases h
  | e :: es, k :: ks, h => by
    have h : He.keyOf e :: es.map He.keyOf = some (k, PyData.keyHash w.params k) :: He.keysIn w.params ks := h
    injection h with h1 h2
    obtain ⟨kvs, p, ek⟩ := kk_pairs (P := P) h2
    unfold He.keyOf at h1
    split at h1
    · rename_i x t q
      obtain ⟨e1, e2⟩ := Prod.mk.inj (Option.some.inj h1)
      exact ⟨(k, e.val) :: kvs, .cons (by rw [q, e1]; exact strKind_is P w k t) rfl p, by rw [List.map_cons, ek]⟩
    · cases h1
section
variable {X : Cx}
theorem call_listKD (hcalm : X.calm = true) : CallR X (.type "list") (fun xs H Q => ∃ (a : Addr) (ks : List Str), xs = [.ref a] ∧ KKeys X.K X.w a ks ∧ ks.length ≤ 1000 ∧ ∀ p, H p = none → Q (.ref p) (upd H p (.lst (ks.map V.str)))) := by
  intro pins s σ H xs us Q I r q
  obtain ⟨a, ks, ex, ⟨es, n, D, hk, nd⟩, hl, q⟩ := q
  subst ex
  obtain ⟨u, eu, rx⟩ := vals1 r
  subst eu
  cases rx
  obtain ⟨kvs, pr, ek⟩ := kk_pairs (P := X.prog) hk
  have hm := PySem.W.mapOf_K (prog := X.prog) (w := X.w) I.kIn D.at_ D.lit
  have hat : s.heap.DictAt (strKind X.prog X.w) a kvs n := ⟨_, es, I.kIn _ _ D.at_, ⟨rfl, rfl, rfl⟩, rfl, by
    obtain ⟨o, es', ep, e1, _, e3, e4, _⟩ := hm
    rw [I.kIn _ _ D.at_] at e1
    cases e1
    cases e3
    exact e4, pr, by rw [ek]; exact nd⟩
  have ll : kvs.length = ks.length := by rw [← ek, List.length_map]
  refine PySem.W.kdl_call (PySem.W.kdl_dict (knd := strKind X.prog X.w) (kvs := kvs) (ep := n) D.low) (I.ok.hd hcalm) hat (by rw [ll]; exact Nat.le_trans hl (by decide)) fun h' tk acc c' hk2 hD hacc => ?_
  have hv : Vals (ks.map V.str) acc.toList := vals_of_at (by rw [List.length_map, ← ll]; exact (Array.length_toList.trans hacc.1).symm) fun j x u e1 e2 => by
    obtain ⟨k, y, e3, e4⟩ := hacc.2 j u (by rw [← Array.getElem?_toList]; exact e2)
    obtain ⟨t, rfl⟩ := Value.isStrOf_shape e4
    rw [← ek, List.map_map, List.getElem?_map, e3] at e1
    cases e1
    exact ⟨t, rfl⟩
  refine ⟨.ref s.heap.objs.size, upd H s.heap.objs.size (.lst (ks.map V.str)), I.laid (t' := tk) hk2 (Nat.le_refl _)
    (show ObjOk X.prog X.w _ _ _ (.lst (ks.map V.str)) from ⟨by rw [List.length_map]; exact Nat.le_trans hl (by decide), acc.toList, c', hv, by rw [Array.toArray_toList]; exact hD⟩), rfl, q _ (I.hok.fresh (Nat.le_refl _))⟩
end
end Xh
end
section
set_option Elab.async false
set_option linter.all false
set_option maxRecDepth 100000
set_option maxHeartbeats 0
namespace Xh
open PySem PySem.Spec PyProof.Rows L2 He
/-- where the written part looks: what the names reach in n steps, and the statics -/
def asS (g : Addr → Option Obj) (n : Nat) : List Addr := cStatics :: asD g n
def obsZ (n : Nat) (fa : List Fa) (fn : List DefD) (tf : List Defn) (ex : PySem.W.Frag → Bool) (g : Addr → Option Obj) : AlX :=
  let K := frT g (asS g n)
  (obsT fa fn [] K, ex K && tabsB g tf K)
theorem saysZ {n : Nat} {fa : List Fa} {fn : List DefD} {tf : List Defn} {ex : PySem.W.Frag → Bool} {w : World} {h : Heap} (e : obsZ n fa fn tf ex h.get? = valX fn [] w) :
    SaysX fa fn [] tf ex w h (frT h.get? (asS h.get? n)) := by
  generalize hK : frT h.get? (asS h.get? n) = K
  have e' : (obsT fa fn [] K, ex K && tabsB h.get? tf K) = valX fn [] w := by rw [← hK]; exact e
  injection e' with e1 e2
  rw [Bool.and_eq_true] at e2
  have key : ∀ p ∈ tf, PySem.W.codeHdIn K (cT K p).1 (cT K p).2 = true ∧ ∃ o, h.get? (cT K p).2 = some o ∧ emptyTab o = true := by
    intro p hp
    have z := List.all_eq_true.mp e2.2 p hp
    rw [Bool.and_eq_true] at z
    refine ⟨z.1, ?_⟩
    have z2 := z.2
    split at z2
    · exact ⟨_, ‹_›, z2⟩
    · cases z2
  refine ⟨e1, e2.1, fun p hp => (key p hp).1, fun p hp => ?_, fun p hp => ?_⟩
  · obtain ⟨_, o, q, z⟩ := key p hp
    rw [← hK] at q ⊢
    exact frT_none q z
  · obtain ⟨_, o, q, z⟩ := key p hp
    rw [q, emptyTab_eq z]
def hookZ (n : Nat) (fa : List Fa) (fn : List DefD) (tf : List Defn) (ex : PySem.W.Frag → Bool) : PySem.W.Hook where
  α := AlX
  obs := fun s => obsZ n fa fn tf ex s.heap.get?
  val := fun w => valX fn [] w
  says := fun w h => ∃ K : PySem.W.Frag, K.In h ∧ SaysX fa fn [] tf ex w h K
  of := fun _ _ e => ⟨_, frT_in, saysZ e⟩
  keeps := fun _ _ _ ⟨K, hK, c⟩ k => ⟨K, PySem.W.Frag.In.keeps hK k, ⟨c.t, c.more, c.hd, c.out, fun p hp => k _ _ (c.empty p hp)⟩⟩
theorem obsZ_eq {n : Nat} {fa : List Fa} {fn : List DefD} {tf : List Defn} {ex : PySem.W.Frag → Bool} {g : Addr → Option Obj} {s : Shared} (h : ∀ a, g a = s.heap.get? a) :
    obsZ n fa fn tf ex g = (hookZ n fa fn tf ex).obs s := by
  have e : g = s.heap.get? := funext h
  subst e
  rfl
end Xh
end
section
set_option Elab.async false
set_option linter.all false
set_option maxRecDepth 100000
set_option maxHeartbeats 0
namespace Xh
open PySem PySem.Spec PyProof.Rows L2 He
/-! The same hook, its addresses found layer by layer, each once: what was seen is a mask. -/
/-- those of a row that the mask has not, each once, and the mask then -/
def freshB {β : Type} : List Addr → Nat → List Addr → (List Addr → Nat → β) → β
  | [], m, acc, k => k acc m
  | a :: r, m, acc, k => match Nat.beq (Nat.mod (Nat.shiftRight m a) 2) 1 with
    | true => freshB r m acc k
    | false => freshB r (Nat.add m (Nat.pow 2 a)) (a :: acc) k
def refsB (g : Addr → Option Obj) (as : List Addr) : List Addr := as.flatMap fun a => match g a with
  | some o => refsD o
  | none => []
def bfsB (g : Addr → Option Obj) : Nat → List Addr → Nat → List Addr
  | 0, fr, _ => fr
  | n + 1, fr, m => fr ++ freshB (refsB g fr) m [] fun new m' => bfsB g n new m'
def asB (n : Nat) (g : Addr → Option Obj) : List Addr := mainGlobals :: cStatics :: freshB (refsB g [mainGlobals]) (2 ^ mainGlobals + 2 ^ cStatics) [] fun new m => bfsB g n new m
/-- over any row of addresses -/
def obsA (as : (Addr → Option Obj) → List Addr) (fa : List Fa) (fn : List DefD) (tf : List Defn) (ex : PySem.W.Frag → Bool) (g : Addr → Option Obj) : AlX :=
  let K := frT g (as g)
  (obsT fa fn [] K, ex K && tabsB g tf K)
theorem saysA {as : (Addr → Option Obj) → List Addr} {fa : List Fa} {fn : List DefD} {tf : List Defn} {ex : PySem.W.Frag → Bool} {w : World} {h : Heap} (e : obsA as fa fn tf ex h.get? = valX fn [] w) :
    SaysX fa fn [] tf ex w h (frT h.get? (as h.get?)) := by
  generalize hK : frT h.get? (as h.get?) = K
  have e' : (obsT fa fn [] K, ex K && tabsB h.get? tf K) = valX fn [] w := by rw [← hK]; exact e
  injection e' with e1 e2
  rw [Bool.and_eq_true] at e2
  have key : ∀ p ∈ tf, PySem.W.codeHdIn K (cT K p).1 (cT K p).2 = true ∧ ∃ o, h.get? (cT K p).2 = some o ∧ emptyTab o = true := by
    intro p hp
    have z := List.all_eq_true.mp e2.2 p hp
    rw [Bool.and_eq_true] at z
    refine ⟨z.1, ?_⟩
    have z2 := z.2
    split at z2
    · exact ⟨_, ‹_›, z2⟩
    · cases z2
  refine ⟨e1, e2.1, fun p hp => (key p hp).1, fun p hp => ?_, fun p hp => ?_⟩
  · obtain ⟨_, o, q, z⟩ := key p hp
    rw [← hK] at q ⊢
    exact frT_none q z
  · obtain ⟨_, o, q, z⟩ := key p hp
    rw [q, emptyTab_eq z]
def hookA (as : (Addr → Option Obj) → List Addr) (fa : List Fa) (fn : List DefD) (tf : List Defn) (ex : PySem.W.Frag → Bool) : PySem.W.Hook where
  α := AlX
  obs := fun s => obsA as fa fn tf ex s.heap.get?
  val := fun w => valX fn [] w
  says := fun w h => ∃ K : PySem.W.Frag, K.In h ∧ SaysX fa fn [] tf ex w h K
  of := fun _ _ e => ⟨_, frT_in, saysA e⟩
  keeps := fun _ _ _ ⟨K, hK, c⟩ k => ⟨K, PySem.W.Frag.In.keeps hK k, ⟨c.t, c.more, c.hd, c.out, fun p hp => k _ _ (c.empty p hp)⟩⟩
theorem obsA_eq {as : (Addr → Option Obj) → List Addr} {fa : List Fa} {fn : List DefD} {tf : List Defn} {ex : PySem.W.Frag → Bool} {g : Addr → Option Obj} {s : Shared} (h : ∀ a, g a = s.heap.get? a) :
    obsA as fa fn tf ex g = (hookA as fa fn tf ex).obs s := by
  have e : g = s.heap.get? := funext h
  subst e
  rfl
end Xh
end
section
set_option Elab.async false
set_option linter.all false
set_option maxRecDepth 100000
set_option maxHeartbeats 0
namespace Xh
open PySem PySem.Spec PyProof.Rows L2 He
/-! the same hook with tables of words -/
/-- over any row of addresses -/
def obsC (as : (Addr → Option Obj) → List Addr) (fa : List Fa) (fn : List DefD) (ts : List Tab) (tf : List Defn) (ex : PySem.W.Frag → Bool) (g : Addr → Option Obj) : AlX :=
  let K := frT g (as g)
  (obsT fa fn ts K, ex K && tabsB g tf K)
theorem saysC {as : (Addr → Option Obj) → List Addr} {fa : List Fa} {fn : List DefD} {ts : List Tab} {tf : List Defn} {ex : PySem.W.Frag → Bool} {w : World} {h : Heap} (e : obsC as fa fn ts tf ex h.get? = valX fn ts w) :
    SaysX fa fn ts tf ex w h (frT h.get? (as h.get?)) := by
  generalize hK : frT h.get? (as h.get?) = K
  have e' : (obsT fa fn ts K, ex K && tabsB h.get? tf K) = valX fn ts w := by rw [← hK]; exact e
  injection e' with e1 e2
  rw [Bool.and_eq_true] at e2
  have key : ∀ p ∈ tf, PySem.W.codeHdIn K (cT K p).1 (cT K p).2 = true ∧ ∃ o, h.get? (cT K p).2 = some o ∧ emptyTab o = true := by
    intro p hp
    have z := List.all_eq_true.mp e2.2 p hp
    rw [Bool.and_eq_true] at z
    refine ⟨z.1, ?_⟩
    have z2 := z.2
    split at z2
    · exact ⟨_, ‹_›, z2⟩
    · cases z2
  refine ⟨e1, e2.1, fun p hp => (key p hp).1, fun p hp => ?_, fun p hp => ?_⟩
  · obtain ⟨_, o, q, z⟩ := key p hp
    rw [← hK] at q ⊢
    exact frT_none q z
  · obtain ⟨_, o, q, z⟩ := key p hp
    rw [q, emptyTab_eq z]
def hookC (as : (Addr → Option Obj) → List Addr) (fa : List Fa) (fn : List DefD) (ts : List Tab) (tf : List Defn) (ex : PySem.W.Frag → Bool) : PySem.W.Hook where
  α := AlX
  obs := fun s => obsC as fa fn ts tf ex s.heap.get?
  val := fun w => valX fn ts w
  says := fun w h => ∃ K : PySem.W.Frag, K.In h ∧ SaysX fa fn ts tf ex w h K
  of := fun _ _ e => ⟨_, frT_in, saysC e⟩
  keeps := fun _ _ _ ⟨K, hK, c⟩ k => ⟨K, PySem.W.Frag.In.keeps hK k, ⟨c.t, c.more, c.hd, c.out, fun p hp => k _ _ (c.empty p hp)⟩⟩
theorem obsC_eq {as : (Addr → Option Obj) → List Addr} {fa : List Fa} {fn : List DefD} {ts : List Tab} {tf : List Defn} {ex : PySem.W.Frag → Bool} {g : Addr → Option Obj} {s : Shared} (h : ∀ a, g a = s.heap.get? a) :
    obsC as fa fn ts tf ex g = (hookC as fa fn ts tf ex).obs s := by
  have e : g = s.heap.get? := funext h
  subst e
  rfl
end Xh
end
section
set_option Elab.async false
set_option linter.all false
set_option maxRecDepth 100000
namespace Xk
open PySem PySem.Spec PyProof.Rows L2 Xh
def topS (i : Nat) : Stmt := PySem.Challenge.pw_rungfields_k53_formulas_written.main.body.getD i (.Pass ⟨0, 0, 0, 0⟩)
def primes : List Int := [2, 3, 5, 7, 11, 13, 17, 19, 23, 29, 31, 37, 41, 43, 47, 53, 59, 61, 67, 71, 73, 79, 83, 89, 97]
def hcs (c : Fin 14 → Addr) : List (List Value) := [[.ref (c 0)], [.ref (c 1)], [.ref (c 2), .ref (c 3)], [.ref (c 4)], [.ref (c 5)], [.ref (c 6), .ref (c 7)], [.ref (c 8), .ref (c 9)], [.ref (c 10), .ref (c 11)]]
/-- the class at C is taken by the j-th clause -/
def Catch (K : PySem.W.Frag) (c : Fin 14 → Addr) (C : Addr) (j : Nat) : Prop := XfC K C ∧ (∀ i < j, ∀ cs, (hcs c)[i]? = some cs → PySem.W.exmAny K (.ref C) cs = some false) ∧ ∀ cs, (hcs c)[j]? = some cs → PySem.W.exmAny K (.ref C) cs = some true
abbrev s_law_begin : Stmt := topS 34
abbrev s_law_take : Stmt := topS 35
abbrev s_law_of : Stmt := topS 36
abbrev s_law_same : Stmt := topS 37
abbrev s_is_wordly : Stmt := topS 24
abbrev s_is_figures : Stmt := topS 16
abbrev s_is_name : Stmt := topS 15
abbrev s_words_of : Stmt := topS 23
abbrev s_goes_ahead : Stmt := topS 25
abbrev s_Reader___init : Stmt := inClass (topS 26) 0
abbrev s_Reader__fold : Stmt := inClass (topS 26) 7
abbrev s_Reader__begin : Stmt := inClass (topS 26) 2
abbrev s_Reader__close : Stmt := inClass (topS 26) 5
abbrev s_Reader__join : Stmt := inClass (topS 26) 6
abbrev s_Reader__go_on : Stmt := inClass (topS 26) 3
abbrev s_Reader__exponent : Stmt := inClass (topS 26) 4
abbrev s_Reader_take : Stmt := inClass (topS 26) 1
abbrev s_Reader_ended : Stmt := inClass (topS 26) 8
abbrev s_read : Stmt := topS 30
abbrev s_law_letters : Stmt := topS 39
abbrev s_law_fresh : Stmt := topS 40
abbrev s_law_tree : Stmt := topS 41
abbrev s_law_signs : Stmt := topS 42
abbrev s_law_shut : Stmt := topS 43
abbrev s_law_text : Stmt := topS 44
abbrev s_bracketed : Stmt := topS 32
abbrev s_write : Stmt := topS 31
abbrev s_law_without : Stmt := topS 45
abbrev s_law_why : Stmt := topS 38
abbrev s_law : Stmt := topS 46
abbrev s_RungError___init : Stmt := inClass (topS 1) 0
abbrev s_BadText___init : Stmt := inClass (topS 5) 0
end Xk
end
section
set_option Elab.async false
set_option linter.all false
set_option maxRecDepth 100000
set_option maxHeartbeats 0
namespace Xk
open PySem PySem.Spec PyProof.Rows L2 Xh LamX NdefX
theorem sc_RungError___init : FnScope (["self", "told"] : List Str) ["self", "told"] (defScope s_RungError___init) := ⟨rfl, rfl, rfl, by decide +kernel, rfl, by decide +kernel, by decide +kernel⟩
theorem sc_BadText___init : FnScope (["self", "at"] : List Str) ["self", "at"] (defScope s_BadText___init) := ⟨rfl, rfl, rfl, by decide +kernel, rfl, by decide +kernel, by decide +kernel⟩
/-! ### the head: what of the written part is looked at -/
open He
/-- the class at C, an own exception over ValueError, called nm; f: how it is made -/
def clsB (K : PySem.W.Frag) (C fI : Addr) (nm : Str) : Bool := (match K.lookup C with
    | some ⟨.type c, _, .cls cd, sl⟩ => decide (c = "type") && ((match cd.mro with
      | .ref a :: bm => decide (a = C) && PySem.HandSPX.refsVE bm
      | _ => false) && (cd.hasDict && (!cd.hasDel && ((match sl.toList with
      | [_, _, some (.str x _), _, some (.builtin n), _] => decide (x = nm) && decide (n = "ValueError.__new__")
      | _ => false)))))
    | _ => false) &&
  (eqO (PySem.W.findIn K (.ref C) "__setattr__") (some (some (.builtin "object.__setattr__"))) && (decide (PySem.W.subIn K (.ref C) (.type "BaseException") = some true) && (decide (PySem.W.typeIn K (.ref C) = some (.type "type")) && (PySem.W.keepIn K (.ref C) &&
  (eqO (PySem.W.findIn K (.ref C) "__getattribute__") (some (some (.builtin "BaseException.__getattribute__"))) && (eqO (PySem.W.findIn K (.ref C) "__getattr__") (some none) && (PySem.W.hasDictIn K C && (eqO (PySem.W.findIn K (.ref C) "__class__") (some (some (.builtin "object.__class__"))) &&
  (eqO (PySem.W.specialIn K (.builtin "object.__class__") "__get__") (some (some (.builtin "getset_descriptor.__get__"))) && (decide (PySem.W.takesIn K (.builtin "object.__class__") = some true) && (decide (PySem.W.mroIn K C (.type "object") = some true) && (PySem.W.readsIn K C (.type "type") &&
  ((match PySem.W.findCls K (.ref C) (.type "type") "__name__" with
    | some (.get (.builtin g) (.builtin n) (.ref c) (.type t)) => decide (g = "getset_descriptor.__get__") && (decide (n = "type.__name__") && (decide (c = C) && decide (t = "type")))
    | _ => false) && (eqO (PySem.W.findIn K (.ref C) "word") (some none) && (eqO (PySem.W.findIn K (.ref C) "__init__") (some (some (.ref fI))) && decide (PySem.W.typeIn K (.ref fI) = some (.type "function")))))))))))))))))
theorem clsB_ok {K : PySem.W.Frag} {C fI : Addr} {nm : Str} (h : clsB K C fI nm = true) : RC K C nm ∧ PySem.W.findIn K (.ref C) "word" = some none ∧ PySem.W.findIn K (.ref C) "__init__" = some (some (.ref fI)) ∧ PySem.W.typeIn K (.ref fI) = some (.type "function") := by
  obtain ⟨h0, h⟩ := ba h
  obtain ⟨h1, h⟩ := ba h
  obtain ⟨h2, h⟩ := ba h
  obtain ⟨h3, h⟩ := ba h
  obtain ⟨h4, h⟩ := ba h
  obtain ⟨h5, h⟩ := ba h
  obtain ⟨h6, h⟩ := ba h
  obtain ⟨h7, h⟩ := ba h
  obtain ⟨h8, h⟩ := ba h
  obtain ⟨h9, h⟩ := ba h
  obtain ⟨h10, h⟩ := ba h
  obtain ⟨h11, h⟩ := ba h
  obtain ⟨h12, h⟩ := ba h
  obtain ⟨h13, h⟩ := ba h
  obtain ⟨h14, h⟩ := ba h
  obtain ⟨h15, h16⟩ := ba h
  have fn : PySem.W.findCls K (.ref C) (.type "type") "__name__" = some (.get (.builtin "getset_descriptor.__get__") (.builtin "type.__name__") (.ref C) (.type "type")) := by
    revert h13
    split
    · rename_i g n c t e
      intro z
      obtain ⟨z1, z⟩ := ba z
      obtain ⟨z2, z⟩ := ba z
      obtain ⟨z3, z4⟩ := ba z
      rw [e, of_decide_eq_true z1, of_decide_eq_true z2, of_decide_eq_true z3, of_decide_eq_true z4]
    · intro z
      cases z
  revert h0
  split
  · rename_i c dd cd sl e
    intro z
    obtain ⟨z1, z⟩ := ba z
    obtain ⟨z2, z⟩ := ba z
    obtain ⟨z3, z⟩ := ba z
    obtain ⟨z4, z5⟩ := ba z
    have c1 : c = "type" := of_decide_eq_true z1
    subst c1
    obtain ⟨cn, cb, cm, cns, cq, chd, csn, csub, cab, ccol, cdel⟩ := cd
    revert z2
    split
    · rename_i a bm em
      intro z2
      obtain ⟨y1, y2⟩ := ba z2
      have y1' := of_decide_eq_true y1
      have em' : cm = .ref a :: bm := em
      subst em'
      subst y1'
      revert z5
      split
      · rename_i s0 s1 x t s3 n s5 es
        intro z5
        obtain ⟨x1, x2⟩ := ba z5
        have x1' := of_decide_eq_true x1
        have x2' := of_decide_eq_true x2
        subst x1' x2'
        have esl : sl = #[s0, s1, some (.str x t), s3, some (.builtin "ValueError.__new__"), s5] := by
          rw [← es]
        have d1 : chd = true := z3
        have d2 : cdel = false := by
          have z4' : (!cdel) = true := z4
          cases cdel with
          | true => cases z4'
          | false => rfl
        subst d1 d2 esl
        exact ⟨⟨⟨⟨_, _, _, _, _, _, _, _, _, _, _, _, _, _, _, e, y2⟩, eqO_ok h1, of_decide_eq_true h2, of_decide_eq_true h3, h4⟩, ⟨eqO_ok h5, eqO_ok h6, of_decide_eq_true h2, h7, eqO_ok h8, eqO_ok h9, of_decide_eq_true h10, of_decide_eq_true h11⟩, h12, fn, ⟨_, _, _, t, e, rfl⟩⟩, eqO_ok h14, eqO_ok h15, of_decide_eq_true h16⟩
      · intro z5
        cases z5
    · intro z2
      cases z2
  · intro z
    cases z
/-- by which clause -/
def catchB (K : PySem.W.Frag) (c : Fin 14 → Addr) (C : Addr) (j : Nat) : Bool := xfB K C && (((hcs c).take j).all (fun cs => decide (PySem.W.exmAny K (.ref C) cs = some false)) && (match (hcs c)[j]? with
  | some cs => decide (PySem.W.exmAny K (.ref C) cs = some true)
  | none => false))
theorem catchB_ok {K : PySem.W.Frag} {c : Fin 14 → Addr} {C : Addr} {j : Nat} (h : catchB K c C j = true) : Catch K c C j := by
  obtain ⟨h1, h⟩ := ba h
  obtain ⟨h2, h3⟩ := ba h
  refine ⟨xfB_ok h1, fun i hi cs hcs => ?_, fun cs hcs => ?_⟩
  · refine of_decide_eq_true (List.all_eq_true.mp h2 cs ?_)
    refine List.mem_of_getElem? (i := i) ?_
    rw [List.getElem?_take_of_lt hi]
    exact hcs
  · rw [hcs] at h3
    exact of_decide_eq_true h3
def names12 : List Str := ["NotWhole", "TooTall", "BadTable", "BadText", "BadPage", "Stopped", "Used", "Held", "NoGuest", "NoName", "RungError", "RungMissing"]
def cOf (K : PySem.W.Frag) (i : Fin 14) : Addr := ga K (names12.getD i.val "RungError")

/-- C.__init__ as a plain def, called by the class -/
def cdefB (K : PySem.W.Frag) (C g : Addr) : Bool := PySem.W.readsIn K C (.type "type") && (eqO (PySem.W.specialIn K (.ref C) "__getattribute__") (some (some (.builtin "type.__getattribute__"))) && ((match PySem.W.findCls K (.ref C) (.type "type") "__init__" with
  | some (.val (.ref a)) => decide (a = g)
  | _ => false) && decide (PySem.W.typeIn K (.ref C) = some (.type "type"))))
theorem cdefB_ok {K : PySem.W.Frag} {C g : Addr} (h : cdefB K C g = true) (kp : PySem.W.keepIn K (.ref g) = true) : CDef K C g "__init__" := by
  obtain ⟨h1, h⟩ := ba h
  obtain ⟨h2, h⟩ := ba h
  obtain ⟨h3, h4⟩ := ba h
  refine ⟨⟨h1, eqO_ok h2⟩, ?_, of_decide_eq_true h4, kp⟩
  revert h3
  split
  · rename_i a e
    intro z
    rw [e, of_decide_eq_true z]
  · intro z
    cases z

/-- an own class without more -/
def clB (K : PySem.W.Frag) (C : Addr) : Bool := PySem.W.plainGet K C Str.empty && (PySem.W.hasDictIn K C && (PySem.W.plainOver K C && eqO (PySem.W.findIn K (.ref C) "__setattr__") (some (some (.builtin "object.__setattr__")))))
theorem clB_ok {K : PySem.W.Frag} {C : Addr} (h : clB K C = true) : Cls K C := by
  obtain ⟨h1, h⟩ := ba h
  obtain ⟨h2, h⟩ := ba h
  obtain ⟨h3, h4⟩ := ba h
  exact ⟨h1, h2, h3, eqO_ok h4⟩
def naB (K : PySem.W.Frag) (C : Addr) (f : Str) : Bool := eqO (PySem.W.findIn K (.ref C) f) (some none)
theorem naB_ok {K : PySem.W.Frag} {C : Addr} {f : Str} (h : naB K C f = true) : NoAttr K C f := eqO_ok h
def mtB (K : PySem.W.Frag) (C : Addr) (m : Str) (f : Addr) : Bool := eqO (PySem.W.findIn K (.ref C) m) (some (some (.ref f))) && PySem.W.isFn K (.ref f)
theorem mtB_ok {K : PySem.W.Frag} {C f : Addr} {m : Str} (h : mtB K C m f = true) (kp : PySem.W.keepIn K (.ref f) = true) : Meth K C m f := by
  obtain ⟨h1, h2⟩ := ba h
  exact ⟨eqO_ok h1, h2, kp⟩
def mkB (K : PySem.W.Frag) (C : Addr) (_ : Str) (f : Addr) : Bool := PySem.W.makesIn K C && (eqO (PySem.W.findIn K (.ref C) "__init__") (some (some (.ref f))) && (PySem.W.isFn K (.ref f) && PySem.W.keepIn K (.ref C)))
theorem mkB_ok {K : PySem.W.Frag} {C f : Addr} {m : Str} (h : mkB K C m f = true) : Mk K C f := by
  obtain ⟨h1, h⟩ := ba h
  obtain ⟨h2, h⟩ := ba h
  obtain ⟨h3, h4⟩ := ba h
  exact ⟨h1, eqO_ok h2, h3, h4⟩

def fnL : List DefD := [⟨("RungError", some "__init__"), "__init__", "RungError.__init__", defArgs s_RungError___init, defBody s_RungError___init, defScope s_RungError___init, [], []⟩, ⟨("BadText", some "__init__"), "__init__", "BadText.__init__", defArgs s_BadText___init, defBody s_BadText___init, defScope s_BadText___init, [], []⟩, ⟨("is_name", none), "is_name", "is_name", defArgs s_is_name, defBody s_is_name, defScope s_is_name, [], []⟩, ⟨("is_figures", none), "is_figures", "is_figures", defArgs s_is_figures, defBody s_is_figures, defScope s_is_figures, [], []⟩, ⟨("words_of", none), "words_of", "words_of", defArgs s_words_of, defBody s_words_of, defScope s_words_of, [], []⟩, ⟨("is_wordly", none), "is_wordly", "is_wordly", defArgs s_is_wordly, defBody s_is_wordly, defScope s_is_wordly, [], []⟩, ⟨("goes_ahead", none), "goes_ahead", "goes_ahead", defArgs s_goes_ahead, defBody s_goes_ahead, defScope s_goes_ahead, [], []⟩, ⟨("Reader", some "__init__"), "__init__", "Reader.__init__", defArgs s_Reader___init, defBody s_Reader___init, defScope s_Reader___init, [], []⟩, ⟨("Reader", some "take"), "take", "Reader.take", defArgs s_Reader_take, defBody s_Reader_take, defScope s_Reader_take, [], []⟩, ⟨("Reader", some "_begin"), "_begin", "Reader._begin", defArgs s_Reader__begin, defBody s_Reader__begin, defScope s_Reader__begin, [], []⟩, ⟨("Reader", some "_go_on"), "_go_on", "Reader._go_on", defArgs s_Reader__go_on, defBody s_Reader__go_on, defScope s_Reader__go_on, [], []⟩, ⟨("Reader", some "_exponent"), "_exponent", "Reader._exponent", defArgs s_Reader__exponent, defBody s_Reader__exponent, defScope s_Reader__exponent, [], []⟩, ⟨("Reader", some "_close"), "_close", "Reader._close", defArgs s_Reader__close, defBody s_Reader__close, defScope s_Reader__close, [], []⟩, ⟨("Reader", some "_join"), "_join", "Reader._join", defArgs s_Reader__join, defBody s_Reader__join, defScope s_Reader__join, [], []⟩, ⟨("Reader", some "_fold"), "_fold", "Reader._fold", defArgs s_Reader__fold, defBody s_Reader__fold, defScope s_Reader__fold, [], []⟩, ⟨("Reader", some "ended"), "ended", "Reader.ended", defArgs s_Reader_ended, defBody s_Reader_ended, defScope s_Reader_ended, [], []⟩, ⟨("read", none), "read", "read", defArgs s_read, defBody s_read, defScope s_read, [], []⟩, ⟨("write", none), "write", "write", defArgs s_write, defBody s_write, defScope s_write, [], []⟩, ⟨("bracketed", none), "bracketed", "bracketed", defArgs s_bracketed, defBody s_bracketed, defScope s_bracketed, [], []⟩, ⟨("_law_begin", none), "_law_begin", "_law_begin", defArgs s_law_begin, defBody s_law_begin, defScope s_law_begin, [], []⟩, ⟨("_law_take", none), "_law_take", "_law_take", defArgs s_law_take, defBody s_law_take, defScope s_law_take, [], []⟩, ⟨("_law_of", none), "_law_of", "_law_of", defArgs s_law_of, defBody s_law_of, defScope s_law_of, [], []⟩, ⟨("_law_same", none), "_law_same", "_law_same", defArgs s_law_same, defBody s_law_same, defScope s_law_same, [], []⟩, ⟨("_law_why", none), "_law_why", "_law_why", defArgs s_law_why, defBody s_law_why, defScope s_law_why, [], []⟩, ⟨("_law_letters", none), "_law_letters", "_law_letters", defArgs s_law_letters, defBody s_law_letters, defScope s_law_letters, [], []⟩, ⟨("_law_fresh", none), "_law_fresh", "_law_fresh", defArgs s_law_fresh, defBody s_law_fresh, defScope s_law_fresh, [], []⟩, ⟨("_law_tree", none), "_law_tree", "_law_tree", defArgs s_law_tree, defBody s_law_tree, defScope s_law_tree, [], []⟩, ⟨("_law_signs", none), "_law_signs", "_law_signs", defArgs s_law_signs, defBody s_law_signs, defScope s_law_signs, [], []⟩, ⟨("_law_shut", none), "_law_shut", "_law_shut", defArgs s_law_shut, defBody s_law_shut, defScope s_law_shut, [], []⟩, ⟨("_law_text", none), "_law_text", "_law_text", defArgs s_law_text, defBody s_law_text, defScope s_law_text, [], []⟩, ⟨("_law_without", none), "_law_without", "_law_without", defArgs s_law_without, defBody s_law_without, defScope s_law_without, [], []⟩, ⟨("law", none), "law", "law", defArgs s_law, defBody s_law, defScope s_law, [], []⟩]
def faL : List Fa := [.glo "NotWhole", .glo "TooTall", .glo "BadTable", .glo "BadText", .glo "BadPage", .glo "Stopped", .glo "Used", .glo "Held", .glo "NoGuest", .glo "NoName", .glo "RungError", .glo "RungMissing", .glo "KINDS", .glo "STRONG", .glo "SIGNS", .glo "WEAK", .glo "Reader", .glo "is_name", .glo "is_figures", .glo "words_of", .glo "is_wordly", .glo "goes_ahead", .glo "read", .glo "write", .glo "bracketed", .glo "_law_begin", .glo "_law_take", .glo "_law_of", .glo "_law_same", .glo "_law_why", .glo "_law_letters", .glo "_law_fresh", .glo "_law_tree", .glo "_law_signs", .glo "_law_shut", .glo "_law_text", .glo "_law_without", .glo "law", .int "MOST_LETTERS" 8, .int "MOST_FIGURES" 6, .int "MOST_PARTS" 40, .str "BRACKET" "(", .free "len", .free "abs", .free "list", .free "tuple", .free "int", .free "bool", .free "str", .free "isinstance", .free "range", .free "all", .free "zip", .free "enumerate", .free "max", .free "reversed", .free "any", .free "sorted", .free "set", .free "sum"]
def exL (K : PySem.W.Frag) : Bool := clsB K (ga K "BadText") (ma K (ga K "BadText") "__init__") "BadText" && (eqO (PySem.W.findIn K (.ref (ga K "BadText")) "at") (some none) && (cdefB K (ga K "RungError") (ma K (ga K "RungError") "__init__") && (catchB K (cOf K) (ga K "BadText") 2 && (clB K (ga K "Reader") && (naB K (ga K "Reader") "_trees" && (naB K (ga K "Reader") "_waiting" && (naB K (ga K "Reader") "_parts" && (naB K (ga K "Reader") "_awaited" && (mkB K (ga K "Reader") "__init__" (ma K (ga K "Reader") "__init__") && (mtB K (ga K "Reader") "take" (ma K (ga K "Reader") "take") && (mtB K (ga K "Reader") "_begin" (ma K (ga K "Reader") "_begin") && (mtB K (ga K "Reader") "_go_on" (ma K (ga K "Reader") "_go_on") && (mtB K (ga K "Reader") "_exponent" (ma K (ga K "Reader") "_exponent") && (mtB K (ga K "Reader") "_close" (ma K (ga K "Reader") "_close") && (mtB K (ga K "Reader") "_join" (ma K (ga K "Reader") "_join") && (mtB K (ga K "Reader") "_fold" (ma K (ga K "Reader") "_fold") && (mtB K (ga K "Reader") "ended" (ma K (ga K "Reader") "ended") && (tupB K "STRONG" [.str "times", .str "over"] && (valsB K (ga K "KINDS") [("+", .str "plus"), ("-", .str "minus"), ("*", .str "times"), ("/", .str "over")] && (tupB K "WEAK" [.str "plus", .str "minus"] && (valsB K (ga K "SIGNS") [("plus", .str "+"), ("minus", .str "-"), ("times", .str "*"), ("over", .str "/")])))))))))))))))))))))
abbrev R : PySem.W.OpenRow := PySem.W.OpenLaw.row PySem.Challenge.rw_rungfields_k53_formulas_written
def tsL : List Tab := [(fun K => ga K "KINDS", ["+", "-", "*", "/"]), (fun K => ga K "SIGNS", ["plus", "minus", "times", "over"])]
abbrev hk : PySem.W.Hook := hookC (asB 3) faL fnL tsL [("law", none)] exL
def ob (s : PySem.W.SharedT) : AlX := obsC (asB 3) faL fnL tsL [("law", none)] exL (HandSHeadRun.getT s)
theorem ob_eq (s : PySem.W.SharedT) : ob s = hk.obs s.abs := obsC_eq (HandSHeadRun.getT_eq s)
def loL : List Str := (["RungError", "BadTable", "NotWhole", "TooTall", "BadText", "Used", "Held", "BadPage", "Stopped", "RungMissing"] : List Str) ++ (["NoGuest", "NoName", "MOST_LETTERS", "is_name", "is_figures", "MOST_PARTS", "MOST_FIGURES", "KINDS", "STRONG", "BRACKET"] : List Str) ++ (["words_of", "is_wordly", "goes_ahead", "Reader", "SIGNS", "WEAK", "read", "write", "bracketed", "_law_begin"] : List Str) ++ (["_law_take", "_law_of", "_law_same", "_law_why", "_law_letters", "_law_fresh", "_law_tree", "_law_signs", "_law_shut", "_law_text"] : List Str) ++ (["_law_without"] : List Str)
theorem run_f (w : World) : HandSHeadRun.RunEq R (PySem.W.view R.prog [46]) hk ob 24000 loL (w.withFollow "special-get-raises" false) := by
  intro os
  kernel_rfl
theorem run_t (w : World) : HandSHeadRun.RunEq R (PySem.W.view R.prog [46]) hk ob 24000 loL (w.withFollow "special-get-raises" true) := by
  intro os
  kernel_rfl
theorem run (w : World) : HandSHeadRun.RunEq R (PySem.W.view R.prog [46]) hk ob 24000 loL w :=
  PySem.W.byRow2 (P := fun w => HandSHeadRun.RunEq R (PySem.W.view R.prog [46]) hk ob 24000 loL w) "special-get-raises" run_f run_t w
end Xk
end
section
set_option Elab.async false
set_option linter.all false
set_option maxRecDepth 100000
set_option maxHeartbeats 4000000
namespace Xk
open PySem PySem.Spec PyProof.Rows L2 Xh
/-- names that are the built-in ones still -/
structure Fre (mg : Str → Option Value) : Prop where
  f_len : mg "len" = none
  f_abs : mg "abs" = none
  f_list : mg "list" = none
  f_tuple : mg "tuple" = none
  f_int : mg "int" = none
  f_bool : mg "bool" = none
  f_str : mg "str" = none
  f_isinstance : mg "isinstance" = none
  f_range : mg "range" = none
  f_all : mg "all" = none
  f_zip : mg "zip" = none
  f_enumerate : mg "enumerate" = none
  f_max : mg "max" = none
  f_reversed : mg "reversed" = none
  f_any : mg "any" = none
  f_sorted : mg "sorted" = none
  f_set : mg "set" = none
  f_sum : mg "sum" = none
/-! ### what is drawn -/
/-- a row of draws stands at d -/
def Draw (H : Hp) (d : Addr) : Prop := ∃ (c : Addr) (ns : List Int) (i : Nat) (r g : Int), H d = some (.lst [.ref c, .int i, .int r, .int g]) ∧ H c = some (.lst (ns.map V.int)) ∧ 0 ≤ g ∧ g < 2147483647
/-- all but what stands at d is as it was -/
structure But (d : Addr) (H H' : Hp) : Prop where
  f : ∀ b o, b ≠ d → H b = some o → H' b = some o
  c : ∀ c r, H d = some (.lst (.ref c :: r)) → ∃ r', H' d = some (.lst (.ref c :: r'))
instance {d : Addr} {H H' : Hp} : CoeFun (But d H H') (fun _ => ∀ b o, b ≠ d → H b = some o → H' b = some o) := ⟨But.f⟩
theorem But.refl (d : Addr) (H : Hp) : But d H H := ⟨fun _ _ _ e => e, fun _ r e => ⟨r, e⟩⟩
theorem But.trans {d : Addr} {H H1 H2 : Hp} (a : But d H H1) (b : But d H1 H2) : But d H H2 := ⟨fun c o h e => b.f c o h (a.f c o h e), fun c r e => by
  obtain ⟨r1, e1⟩ := a.c c r e
  exact b.c c r1 e1⟩
theorem But.same {d : Addr} {H H1 : Hp} (a : Same H H1) : But d H H1 := ⟨fun c o _ e => a c o e, fun c r e => ⟨r, a _ _ e⟩⟩
theorem But.upd {d c : Addr} {H : Hp} {r r' : List V} (h : H d = some (.lst (.ref c :: r))) : But d H (upd H d (.lst (.ref c :: r'))) := ⟨fun b u h e => by rw [upd_ne h]; exact e, fun c' r2 e => by
  rw [h] at e
  cases e
  exact ⟨r', upd_same⟩⟩
theorem But.updN {d p : Addr} {H : Hp} {o : HO} (h : H p = none) : But d H (L2.upd H p o) := ⟨fun b u _ e => by rw [upd_ne (ne_of_none e h)]; exact e, fun c r e => ⟨r, by rw [upd_ne (ne_of_none e h)]; exact e⟩⟩
theorem But.free {d p : Addr} {H H' : Hp} (a : But d H H') (h : H' p = none) (hd : p ≠ d) : H p = none := by
  cases q : H p with
  | none => rfl
  | some o =>
    rw [a p o hd q] at h
    cases h
theorem same_upd {p : Addr} {H : Hp} {o : HO} (h : H p = none) : Same H (L2.upd H p o) := fun b u e => by rw [upd_ne (ne_of_none e h)]; exact e
theorem Draw.there {H : Hp} {d : Addr} (D : Draw H d) : ∃ o, H d = some o := by
  obtain ⟨c, ns, i, r, g, h, _⟩ := D
  exact ⟨_, h⟩
theorem Draw.same {H H' : Hp} {d : Addr} (D : Draw H d) (s : Same H H') : Draw H' d := by
  obtain ⟨c, ns, i, r, g, h1, h2, h3⟩ := D
  exact ⟨c, ns, i, r, g, s _ _ h1, s _ _ h2, h3⟩
theorem Draw.ne {H : Hp} {d p : Addr} (D : Draw H d) (h : H p = none) : p ≠ d := fun z => by
  obtain ⟨o, e⟩ := D.there
  rw [z, e] at h
  cases h
theorem But.seq {K : PySem.W.Frag} {d a : Addr} {H H' : Hp} {xs : List V} (b : But d H H') (hd : a ≠ d) (h : SqL K H a xs) : SqL K H' a xs := by
  rcases h with (h | ⟨o, h⟩) | h
  · exact .inl (.inl (b _ _ hd h))
  · exact .inl (.inr ⟨o, b _ _ hd h⟩)
  · exact .inr h
/-- a row that is not the drawing one -/
theorem Draw.apart {H : Hp} {d p : Addr} {ns : List Int} (D : Draw H d) (h : H p = some (.lst (ns.map V.int))) : p ≠ d := fun z => by
  obtain ⟨c, ms, i, r, g, h1, h2, h3⟩ := D
  rw [z, h1] at h
  cases ns with
  | nil => cases h
  | cons n ns => cases h
/-- a list of the comprehension's own grows while draws go on -/
theorem Draw.updR {H0 H2 : Hp} {d D : Addr} {xs ys : List V} (D0 : Draw H0 d) (hD : H0 D = none) (b : But d H0 H2) (D2 : Draw H2 d) (e : H2 D = some (.lst xs)) : Draw (L2.upd H2 D (.lst ys)) d := by
  obtain ⟨c, ns, i, r, g, h1, h2, _⟩ := D0
  obtain ⟨c', ns', i', r', g', f1, f2, f3⟩ := D2
  obtain ⟨q, e1⟩ := b.c _ _ h1
  rw [f1] at e1
  cases e1
  exact ⟨_, ns', i', r', g', by rw [upd_ne (ne_of_none h1 hD)]; exact f1, by rw [upd_ne (ne_of_none h2 hD)]; exact f2, f3⟩
theorem cutV_ints (ns : List Int) (lo hi : Option Int) : ∃ ms : List Int, cutV (ns.map V.int) lo hi = ms.map V.int := by
  refine ⟨(ns.drop (HT.sIx ns.length 0 lo)).take (HT.sIx ns.length ns.length hi - HT.sIx ns.length 0 lo), ?_⟩
  unfold cutV
  rw [List.length_map, ← List.map_drop, ← List.map_take]
theorem ne_of_none' {H : Hp} {a b : Addr} {o : HO} (h : H a = none) (h' : H b = some o) : a ≠ b := fun z => by
  rw [z, h'] at h
  cases h
def spBegin (K : PySem.W.Frag) : Sp := fun vs H Q _ => ∃ (a : Addr) (ns : List Int), vs = [.ref a] ∧ SqL K H a (ns.map V.int) ∧ ∀ d H', Same H H' → H d = none → Draw H' d → Q (.ref d) H'
def spTake : Sp := fun vs H Q _ => ∃ (d : Addr) (n : Int), vs = [.ref d, .int n] ∧ Draw H d ∧ 1 ≤ n ∧ n.natAbs < 2 ^ 200 ∧ ∀ (m : Int) (H' : Hp), 0 ≤ m → m < n → Draw H' d → But d H H' → Q (.int m) H'
def spOf (K : PySem.W.Frag) : Sp := fun vs H Q _ => ∃ (d a : Addr) (xs : List V), vs = [.ref d, .ref a] ∧ Draw H d ∧ SqL K H a xs ∧ a ≠ d ∧ 0 < xs.length ∧ xs.length ≤ 1000 ∧ ∀ (x : V) (H' : Hp), x ∈ xs → Draw H' d → But d H H' → Q x H'
def spPrimes : Sp := fun vs H Q _ => vs = [] ∧ ∀ (p : Addr) (H' : Hp), Same H H' → H p = none → H' p = some (.lst (primes.map V.int)) → Q (.ref p) H'
def spAnyPrime : Sp := fun vs H Q _ => ∃ (d : Addr), vs = [.ref d] ∧ Draw H d ∧ ∀ (p : Int) (H' : Hp), p ∈ primes → Draw H' d → But d H H' → Q (.int p) H'
theorem big {n : Nat} (h : n ≤ 1000) : n < 2 ^ 200 := Nat.lt_of_le_of_lt h (by decide)
section
variable {P : Program} {w : World} {K : PySem.W.Frag} {mg : Str → Option Value} {base : Heap}
theorem sc_law_begin : FnScope (["_law_script"] : List Str) ["_law_script"] (defScope s_law_begin) := ⟨rfl, rfl, rfl, by decide +kernel, rfl, by decide +kernel, by decide +kernel⟩
theorem ok_begin {f : Addr} {fd : FuncData} (F : FunD K "_law_begin" "_law_begin" (defArgs s_law_begin) (defBody s_law_begin) (defScope s_law_begin) [] [] f fd) (T : Fre mg) : FnOk P w K mg base CX0 1 f fd ["_law_script"] (spBegin K) := by
  refine F.ok sc_law_begin (fun vs H Q E h => ?_) (fun cdv A outer s H vs Q E hr h => ?_)
  · obtain ⟨a, ns, rfl, _⟩ := h
    rfl
  · obtain ⟨a, ns, rfl, hS, k⟩ := h
    refine ⟨_, PSs.nox (pss_one (ps_ret (pe_lst (pa_cons (pe_callTy call_list_of (by rfl) T.f_list (by decide +kernel) (pa_cons (pe_slice sl_list (pv 0) po_none (po_some pe_int)) pa_nil)) (pa_cons pe_int (pa_cons pe_int (pa_cons pe_int pa_nil))))))) , ?_⟩
    refine ⟨_, rfl, 63, rfl, a, _, rfl, hS, fun p hp => ⟨p, _, rfl, .inl (SqL.of upd_same), fun l hl => ⟨(by show 4 ≤ sizeLine; decide), fun d hd => ?_⟩⟩⟩
    obtain ⟨ms, em⟩ := cutV_ints ns none (some 63)
    have h1 : H l = none := by rw [← upd_ne (H := H) (o := .lst (cutV (ns.map V.int) none (some 63))) (ne_of_none' hl upd_same)]; exact hl
    have s1 : Same H (L2.upd H p (.lst (cutV (ns.map V.int) none (some 63)))) := same_upd hp
    have s2 := s1.trans (same_upd (o := .lst (cutV (ns.map V.int) none (some 63))) hl)
    refine k d _ (s2.trans (same_upd hd)) (s2.free hd) ⟨l, ms, 0, 0, 37, upd_same, ?_, by decide, by decide⟩
    rw [upd_ne (ne_of_none upd_same hd), upd_same, em]
theorem sc_law_take : FnScope (["_law_draw", "_law_sides", "_law_cell", "_law_got"] : List Str) ["_law_draw", "_law_sides"] (defScope s_law_take) := ⟨rfl, rfl, rfl, by decide +kernel, rfl, by decide +kernel, by decide +kernel⟩
theorem ok_take {f : Addr} {fd : FuncData} (F : FunD K "_law_take" "_law_take" (defArgs s_law_take) (defBody s_law_take) (defScope s_law_take) [] [] f fd) (T : Fre mg) : FnOk P w K mg base CX0 1 f fd ["_law_draw", "_law_sides"] spTake := by
  refine F.ok sc_law_take (fun vs H Q E h => ?_) (fun cdv A outer s H vs Q E hr h => ?_)
  · obtain ⟨d, n, rfl, _⟩ := h
    rfl
  · obtain ⟨d, n, rfl, D, h1, h2, k⟩ := h
    obtain ⟨c, ns, i, r, g, e1, e2, g0, g1⟩ := id D
    have hcd : c ≠ d := D.apart e2
    refine ⟨_, PSs.nox (C8.pss_cut (ps_if (PW.pt (pw_and (pt_cmpR op_lt (pe_ix ix_list (pv 0) pe_int (fun _ _ => rfl)) (pv 1) (nomark _)) (pw_and1 (pt_cmpR op_lt (pe_ix ix_list (pv 0) pe_int (fun _ _ => rfl)) (pe_callB call_len_seq (by rfl) T.f_len PySem.boot_len (pa_cons (pe_ix ix_list (pv 0) pe_int (fun _ _ => rfl)) pa_nil)) (nomark _))))) (pss_cons (ps_set (i := 2) sc_law_take.nd rfl (Or.inl rfl) (pe_ix ix_list (pe_ix ix_list (pv 0) pe_int (fun _ _ => rfl)) (pe_ix ix_list (pv 0) pe_int (fun _ _ => rfl)) (fun _ _ => rfl)))
      (pss_cons (ps_asg (pe_op op_add (pe_ix ix_list (pv 0) pe_int (fun _ _ => rfl)) pe_int) (pg_sub (pv 0) pe_int set_list))
      (pss_cons (ps_asg pe_int (pg_sub (pv 0) pe_int set_list))
      (pss_one (ps_if (pt_cmpR op_ge (pe_callB call_abs (by rfl) T.f_abs (by decide +kernel) (pa_cons (pv 2) pa_nil)) (pe_op op_pow pe_int pe_int) (nomark _)) (pss_one (ps_asg (pe_callB call_abs (by rfl) T.f_abs (by decide +kernel) (pa_cons (pv 2) pa_nil)) (pg_sub (pv 0) pe_int set_list))) (pss_one (ps_asg (pe_op op_modN (pe_op op_add (pe_op op_add (pe_op op_mul (pe_ix ix_list (pv 0) pe_int (fun _ _ => rfl)) pe_int) (pe_op op_mul (pe_op op_modN (pv 2) pe_int) pe_int)) pe_int) pe_int) (pg_sub (pv 0) pe_int set_list)))))))) pss_nil)
      (pss_cons (ps_if (pt_cmpR op_ge (pe_ix ix_list (pv 0) pe_int (fun _ _ => rfl)) (pv 1) (nomark _)) (pss_cons (ps_set (i := 3) sc_law_take.nd rfl (Or.inl rfl) (pe_op op_modN (pe_ix ix_list (pv 0) pe_int (fun _ _ => rfl)) (pv 1)))
      (pss_cons (ps_asg (pe_op op_fdivW (pe_ix ix_list (pv 0) pe_int (fun _ _ => rfl)) (pv 1)) (pg_sub (pv 0) pe_int set_list))
      (pss_one (ps_ret (pv 3))))) pss_nil)
      (pss_cons (ps_asg (pe_op op_modN (pe_op op_add (pe_op op_add (pe_op op_mul (pe_op op_modN (pe_op op_mul (pe_ix ix_list (pv 0) pe_int (fun _ _ => rfl)) (pe_ix ix_list (pv 0) pe_int (fun _ _ => rfl))) pe_int) pe_int) (pe_op op_mul (pe_ix ix_list (pv 0) pe_int (fun _ _ => rfl)) pe_int)) pe_int) pe_int) (pg_sub (pv 0) pe_int set_list))
      (pss_one (ps_ret (pe_op op_modN (pe_op op_add (pe_op op_fdivW (pe_ix ix_list (pv 0) pe_int (fun _ _ => rfl)) pe_int) (pe_op op_mul (pe_op op_modN (pe_ix ix_list (pv 0) pe_int (fun _ _ => rfl)) pe_int) pe_int)) (pv 1))))))) , ?_⟩
    refine ⟨fun σ' H' => ∃ x, σ' = [some (.ref d), some (.int n), x, none] ∧ Draw H' d ∧ But d H H', ?_, ?_⟩
    · have same : ∃ x, L2.start ["_law_draw", "_law_sides", "_law_cell", "_law_got"] [V.ref d, V.int n] = [some (.ref d), some (.int n), x, none] ∧ Draw H d ∧ But d H H := ⟨none, rfl, D, But.refl d H⟩
      refine ⟨_, rfl, d, _, 2, _, rfl, rfl, SqL.of e1, rfl, _, rfl, _, _, rfl, rfl, _, rfl, ?_⟩
      refine ite2 (fun hc => ?_) (fun hc => ?_)
      · refine ⟨_, rfl, d, _, 1, _, rfl, rfl, SqL.of e1, rfl, _, rfl, d, _, 0, _, rfl, rfl, SqL.of e1, rfl, c, _, rfl, .inl (SqL.of e2), _, _, rfl, rfl, _, rfl, ?_⟩
        refine ite2 (fun hi => ?_) (fun hi => ?_)
        · have hi' : i < ns.length := by
            have z := of_decide_eq_true hi
            rw [List.length_map] at z
            omega
          have e1a : ∀ o : HO, L2.upd H d o d = some o := fun o => upd_same
          refine ⟨_, rfl, d, _, 0, _, rfl, rfl, SqL.of e1, rfl, _, rfl, d, _, 1, _, rfl, rfl, SqL.of e1, rfl, c, _, i, .int ns[i], rfl, rfl, SqL.of e2, atI_nat (by simp [hi']), ?_⟩
          refine ⟨_, rfl, d, _, 1, _, rfl, rfl, SqL.of e1, rfl, _, _, rfl, rfl, _, rfl, d, _, 1, 1, rfl, rfl, e1, rfl, ?_⟩
          refine ⟨_, rfl, d, _, 2, 2, rfl, rfl, upd_same, rfl, ?_⟩
          rw [upd_upd]
          refine ⟨_, rfl, _, rfl, _, _, rfl, rfl, ⟨by decide, by decide, by decide⟩, _, _, rfl, rfl, _, rfl, ?_⟩
          have fin : ∀ (r' g' : Int), 0 ≤ g' → g' < 2147483647 → ∃ x, [some (V.ref d), some (V.int n), some (V.int ns[i]), none] = [some (.ref d), some (.int n), x, none] ∧ Draw (L2.upd H d (.lst [.ref c, .int ((i : Int) + 1), .int r', .int g'])) d ∧ But d H (L2.upd H d (.lst [.ref c, .int ((i : Int) + 1), .int r', .int g'])) := fun r' g' a1 a2 =>
            ⟨_, rfl, ⟨c, ns, i + 1, r', g', upd_same, by rw [upd_ne hcd]; exact e2, a1, a2⟩, But.upd e1⟩
          refine ite2 (fun ha => ?_) (fun ha => ?_)
          · refine ⟨_, rfl, _, rfl, _, rfl, d, _, 2, 2, rfl, rfl, upd_same, rfl, ?_⟩
            rw [upd_upd]
            exact fin _ g g0 g1
          · refine ⟨_, rfl, d, _, 3, _, rfl, rfl, SqL.of upd_same, rfl, _, _, rfl, rfl, .inr ⟨by decide, by decide⟩, _, rfl, _, _, rfl, rfl, (fun z => absurd z (by decide)), _, _, rfl, rfl, .inr ⟨by decide, by decide⟩, _, _, rfl, rfl, _, _, rfl, rfl, _, _, rfl, rfl, (fun z => absurd z (by decide)), _, rfl, d, _, 3, 3, rfl, rfl, upd_same, rfl, ?_⟩
            rw [upd_upd]
            exact fin 0 _ (Int.fmod_nonneg_of_pos _ (by decide)) (Int.fmod_lt_of_pos _ (by decide))
        · exact same
      · exact same
    · rintro σ' H' ⟨x, rfl, ⟨c', ns', i', r', g', f1, f2, b0, b1⟩, hb⟩
      have D' : Draw H' d := ⟨c', ns', i', r', g', f1, f2, b0, b1⟩
      have hcd' : c' ≠ d := D'.apart f2
      have hwd : CDivW r' n := wide_div (b := 200) (by omega) h2 (by decide) (by decide)
      refine ⟨_, rfl, d, _, 2, _, rfl, rfl, SqL.of f1, rfl, _, rfl, _, _, rfl, rfl, _, rfl, ?_⟩
      refine ite2 (fun hc => ?_) (fun hc => ?_)
      · refine ⟨_, rfl, d, _, 2, _, rfl, rfl, SqL.of f1, rfl, _, rfl, _, _, rfl, rfl, (by show n ≠ 0; omega), ?_⟩
        refine ⟨_, rfl, d, _, 2, _, rfl, rfl, SqL.of f1, rfl, _, rfl, _, _, rfl, rfl, hwd, _, rfl, d, _, 2, 2, rfl, rfl, f1, rfl, _, rfl, ?_⟩
        refine k _ _ (Int.fmod_nonneg_of_pos _ (by omega)) (Int.fmod_lt_of_pos _ (by omega)) ⟨c', ns', i', _, g', upd_same, by rw [upd_ne hcd']; exact f2, b0, b1⟩ (hb.trans (But.upd f1))
      · refine ⟨_, rfl, d, _, 3, _, rfl, rfl, SqL.of f1, rfl, _, rfl, d, _, 3, _, rfl, rfl, SqL.of f1, rfl, _, _, rfl, rfl, .inl ⟨by omega, by omega⟩, _, _, rfl, rfl, (fun z => absurd z (by decide)), _, _, rfl, rfl, .inr ⟨by decide, by decide⟩, _, rfl, d, _, 3, _, rfl, rfl, SqL.of f1, rfl, _, _, rfl, rfl, .inr ⟨by decide, by decide⟩, _, _, rfl, rfl, _, _, rfl, rfl, _, _, rfl, rfl, (fun z => absurd z (by decide)), _, rfl, d, _, 3, 3, rfl, rfl, f1, rfl, ?_⟩
        refine ⟨_, rfl, d, _, 3, _, rfl, rfl, SqL.of upd_same, rfl, _, _, rfl, rfl, wide_div (b := 6) (by decide) (by decide) (by decide) (by decide), _, rfl, d, _, 3, _, rfl, rfl, SqL.of upd_same, rfl, _, _, rfl, rfl, (fun z => absurd z (by decide)), _, _, rfl, rfl, .inr ⟨by decide, by decide⟩, _, _, rfl, rfl, _, rfl, _, _, rfl, rfl, (by show n ≠ 0; omega), ?_⟩
        refine k _ _ (Int.fmod_nonneg_of_pos _ (by omega)) (Int.fmod_lt_of_pos _ (by omega)) ⟨c', ns', i', _, _, upd_same, by rw [upd_ne hcd']; exact f2, Int.fmod_nonneg_of_pos _ (by decide), Int.fmod_lt_of_pos _ (by decide)⟩ (hb.trans (But.upd f1))
theorem sc_law_of : FnScope (["_law_draw", "_law_row"] : List Str) ["_law_draw", "_law_row"] (defScope s_law_of) := ⟨rfl, rfl, rfl, by decide +kernel, rfl, by decide +kernel, by decide +kernel⟩
theorem ok_of {f : Addr} {fd : FuncData} (F : FunD K "_law_of" "_law_of" (defArgs s_law_of) (defBody s_law_of) (defScope s_law_of) [] [] f fd) (T : Fre mg) (o_law_take : Own P w K mg base CX0 1 "_law_take" ["_law_draw", "_law_sides"] [] spTake) : FnOk P w K mg base CX0 2 f fd ["_law_draw", "_law_row"] (spOf K) := by
  refine F.ok sc_law_of (fun vs H Q E h => ?_) (fun cdv A outer s H vs Q E hr h => ?_)
  · obtain ⟨d, a, xs, rfl, _⟩ := h
    rfl
  · obtain ⟨d, a, xs, rfl, D, hS, had, h1, h2, k⟩ := h
    refine ⟨_, PSs.nox (pss_one (ps_ret (pe_ix ix_list (pv 1) (pe_own o_law_take (hr.mono (by decide)) rfl pass0 (pa_cons (pv 0) (pa_cons (pe_callB call_len_seq (by rfl) T.f_len PySem.boot_len (pa_cons (pv 1) pa_nil)) pa_nil))) (fun _ _ => rfl)))) , ?_⟩
    refine ⟨_, rfl, _, rfl, _, rfl, a, _, rfl, .inl hS, d, _, rfl, D, (by show 1 ≤ ((xs.length : Nat) : Int); omega), (by show ((xs.length : Nat) : Int).natAbs < 2 ^ 200; exact big (by omega)), fun m H' m0 m1 D' B => ?_⟩
    obtain ⟨j, rfl⟩ := Int.eq_ofNat_of_zero_le m0
    have hj : j < xs.length := by omega
    refine ⟨a, xs, j, xs[j], rfl, rfl, B.seq had hS, atI_nat (by simp [hj]), k _ _ (List.getElem_mem hj) D' B⟩
end
end Xk
end
section
set_option Elab.async false
set_option linter.all false
set_option maxRecDepth 100000
set_option maxHeartbeats 4000000
namespace Xk
open PySem PySem.Spec PyProof.Rows L2 Xh LamX NdefX
/-! ### two things alike -/
theorem tyT {K : PySem.W.Frag} {H : Hp} {a : Addr} {xs : List V} (h : SqT K H a xs) : TyX K H (.ref a) (.type "tuple") := by
  rcases h with (h | ⟨o, h⟩) | ⟨o, its, n, h, c, _⟩
  · exact .base (.tup h)
  · exact .fTuple h
  · exact .kTuple h c
theorem tyL {K : PySem.W.Frag} {H : Hp} {a : Addr} {xs : List V} (h : SqL K H a xs) : TyX K H (.ref a) (.type "list") := by
  rcases h with (h | ⟨o, h⟩) | ⟨o, its, n, h, c, _⟩
  · exact .base (.lst h)
  · exact .base (.frz h)
  · exact .kList h c
theorem sameT {K : PySem.W.Frag} {H H' : Hp} {a : Addr} {xs : List V} (e : Same H H') (h : SqT K H a xs) : SqT K H' a xs := by
  rcases h with (h | ⟨o, h⟩) | h
  · exact .inl (.inl (e _ _ h))
  · exact .inl (.inr ⟨o, e _ _ h⟩)
  · exact .inr h
def tyF : V → String
  | .non => "NoneType"
  | .bl _ => "bool"
  | .int _ => "int"
  | _ => "str"
theorem flat_ty {K : PySem.W.Frag} {H : Hp} {x : V} (h : flatV x = true) : TyX K H x (.type (tyF x)) := by
  cases x with
  | non => exact .base .non
  | bl b => exact .base (.bl b)
  | int i => exact .base (.int i)
  | str s => exact .base (.str s)
  | _ => cases h
theorem flat_ty4 {x : V} (h : flatV x = true) : tyF x = "NoneType" ∨ tyF x = "bool" ∨ tyF x = "int" ∨ tyF x = "str" := by
  cases x with
  | non => exact .inl rfl
  | bl b => exact .inr (.inl rfl)
  | int i => exact .inr (.inr (.inl rfl))
  | str s => exact .inr (.inr (.inr rfl))
  | _ => cases h
theorem any_lt {K : PySem.W.Frag} : PySem.W.kitAny K (.type "list") [.type "list", .type "tuple"] = some true := kitAny_cons (b := true) (kit_ty (by decide +kernel)) (fun z => by cases z) (fun _ => rfl)
theorem any_tt {K : PySem.W.Frag} : PySem.W.kitAny K (.type "tuple") [.type "list", .type "tuple"] = some true := kitAny_cons (b := false) (kit_ty (by decide +kernel)) (fun _ => kitAny_cons (b := true) (kit_ty (by decide +kernel)) (fun z => by cases z) (fun _ => rfl)) (fun z => by cases z)
theorem any_f {K : PySem.W.Frag} {t : String} (h : t = "NoneType" ∨ t = "bool" ∨ t = "int" ∨ t = "str") : PySem.W.kitAny K (.type t) [.type "list", .type "tuple"] = some false := by
  have two : kitB t "list" = some false ∧ kitB t "tuple" = some false := by
    rcases h with rfl | rfl | rfl | rfl <;> exact ⟨by decide +kernel, by decide +kernel⟩
  exact kitAny_cons (b := false) (kit_ty two.1) (fun _ => kitAny_cons (b := false) (kit_ty two.2) (fun _ => kitAny_nil) (fun z => by cases z)) (fun z => by cases z)
theorem one_f {K : PySem.W.Frag} {t : String} (h : t = "NoneType" ∨ t = "bool" ∨ t = "int" ∨ t = "str") : (∃ b, PySem.W.kitOne K (.type t) (.type "bool") = some b) ∧ (∃ b, PySem.W.kitOne K (.type t) (.type "int") = some b) ∧ ∃ b, PySem.W.kitOne K (.type t) (.type "str") = some b := by
  rcases h with rfl | rfl | rfl | rfl
  · exact ⟨⟨_, kit_ty (r := false) (by decide +kernel)⟩, ⟨_, kit_ty (r := false) (by decide +kernel)⟩, ⟨_, kit_ty (r := false) (by decide +kernel)⟩⟩
  · exact ⟨⟨_, kit_ty (r := true) (by decide +kernel)⟩, ⟨_, kit_ty (r := true) (by decide +kernel)⟩, ⟨_, kit_ty (r := false) (by decide +kernel)⟩⟩
  · exact ⟨⟨_, kit_ty (r := false) (by decide +kernel)⟩, ⟨_, kit_ty (r := true) (by decide +kernel)⟩, ⟨_, kit_ty (r := false) (by decide +kernel)⟩⟩
  · exact ⟨⟨_, kit_ty (r := false) (by decide +kernel)⟩, ⟨_, kit_ty (r := false) (by decide +kernel)⟩, ⟨_, kit_ty (r := true) (by decide +kernel)⟩⟩
theorem walk_zipT {K : PySem.W.Frag} {a b : Addr} {xs ys : List V} (hn : xs.length = ys.length) : Walk (RZ.ItzT K a b) xs.length (fun H => SqT K H a xs ∧ SqT K H b ys) (YPair (fun i => xs[i]?) (fun i => ys[i]?)) :=
  ⟨fun i H hi h => ⟨xs, ys, xs[i], ys[i]'(by omega), h.1, h.2, by simp [hi], by simp [show i < ys.length by omega]⟩, fun H h => ⟨xs, ys, h.1, h.2, .inl (Nat.le_refl _)⟩,
    fun i H x H' hi h y => by
      obtain ⟨T, u, v, e1, e2, e3, q1, q2⟩ := y
      exact ⟨T, u, v, e1, e2, e3, q1 xs h.1, q2 ys h.2⟩⟩
/-- alike, to a depth -/
def SameAt (K : PySem.W.Frag) (H : Hp) : Nat → V → V → Prop
  | 0, v, u => flatV u = true ∧ v = u
  | n + 1, v, u => (flatV u = true ∧ v = u) ∨ ∃ (a b : Addr) (xs ys : List V), v = .ref a ∧ u = .ref b ∧ ((SqL K H a xs ∧ SqL K H b ys) ∨ (SqT K H a xs ∧ SqT K H b ys)) ∧ xs.length = ys.length ∧ xs.length ≤ 1000 ∧ ∀ (i : Nat) (x y : V), xs[i]? = some x → ys[i]? = some y → SameAt K H n x y
theorem SameAt.same {K : PySem.W.Frag} {H H' : Hp} (s : Same H H') : ∀ {n : Nat} {v u : V}, SameAt K H n v u → SameAt K H' n v u
  | 0, _, _, h => h
  | n + 1, _, _, .inl h => .inl h
  | n + 1, _, _, .inr ⟨a, b, xs, ys, e1, e2, h, l, l2, q⟩ => .inr ⟨a, b, xs, ys, e1, e2, h.imp (fun z => ⟨s.seq z.1, s.seq z.2⟩) (fun z => ⟨sameT s z.1, sameT s z.2⟩), l, l2, fun i x y hx hy => (q i x y hx hy).same s⟩
def spS (K : PySem.W.Frag) : Nat → Sp
  | 0 => fun _ _ _ _ => False
  | n + 1 => fun vs H Q _ => ∃ (v u : V), vs = [v, u] ∧ SameAt K H n v u ∧ ∀ H', Same H H' → Q (.bl true) H'
theorem spS_len {K : PySem.W.Frag} : ∀ (n : Nat) (vs : List V) (H : Hp) (Q : VK) (E : XK), spS K n vs H Q E → vs.length = (["_law_found", "_law_due"] : List Str).length
  | 0, _, _, _, _, h => h.elim
  | n + 1, _, _, _, _, ⟨v, u, e, _⟩ => by rw [e]; rfl
section
variable {P : Program} {w : World} {K : PySem.W.Frag} {mg : Str → Option Value} {base : Heap}
theorem sc_law_same : FnScope (["_law_found", "_law_due", "_law_one", "_law_other"] : List Str) ["_law_found", "_law_due"] (defScope s_law_same) := ⟨rfl, rfl, rfl, by decide +kernel, rfl, by decide +kernel, by decide +kernel⟩
theorem ok_same {f : Addr} {fd : FuncData} (F : FunD K "_law_same" "_law_same" (defArgs s_law_same) (defBody s_law_same) (defScope s_law_same) [] [] f fd) (T : Fre mg) (m : mg "_law_same" = some (.ref f)) : ∀ n : Nat, FnOk P w K mg base CX0 n f fd ["_law_found", "_law_due"] (spS K n) := by
  intro n
  induction n with
  | zero => exact ⟨fun _ _ _ _ h => h.elim, fun _ _ _ _ _ _ _ _ _ _ _ _ _ h => h.elim⟩
  | succ n ih =>
  have o_law_same : Own P w K mg base CX0 n "_law_same" ["_law_found", "_law_due"] [] (spS K n) := own_of F ih m fun _ _ _ _ _ _ us hl => match us, hl with | [_, _], _ => rfl
  refine F.ok sc_law_same (spS_len _) (fun cdv A outer s H vs Q E hr h => ?_)
  obtain ⟨v, u, rfl, hs, k⟩ := h
  refine ⟨_, PSs.nox (pss_cons (ps_if (pt_val (pe_callB call_isiT (by rfl) T.f_isinstance PyProof.Rows.boot_isinstance (pa_cons (pv 1) (pa_cons (pe_tup (pa_cons (pe_bltn (v := .ty "list") rfl T.f_list boot_list rfl) (pa_cons (pe_bltn (v := .ty "tuple") rfl T.f_tuple boot_tuple rfl) pa_nil))) pa_nil)))) (pss_cons (ps_if (PW.pt (pw_or (pt_cmpR op_ne (pe_callB call_isi (by rfl) T.f_isinstance PyProof.Rows.boot_isinstance (pa_cons (pv 0) (pa_cons (pe_bltn (v := .ty "list") rfl T.f_list boot_list rfl) pa_nil))) (pe_callB call_isi (by rfl) T.f_isinstance PyProof.Rows.boot_isinstance (pa_cons (pv 1) (pa_cons (pe_bltn (v := .ty "list") rfl T.f_list boot_list rfl) pa_nil))) (nomark _)) (pw_or1 (pt_not (pt_val (pe_callB call_isiT (by rfl) T.f_isinstance PyProof.Rows.boot_isinstance (pa_cons (pv 0) (pa_cons (pe_tup (pa_cons (pe_bltn (v := .ty "list") rfl T.f_list boot_list rfl) (pa_cons (pe_bltn (v := .ty "tuple") rfl T.f_tuple boot_tuple rfl) pa_nil))) pa_nil)))))))) (pss_one (ps_ret pe_bl)) pss_nil)
      (pss_one (ps_ret (pe_and (pe_cmpR op_eq (pe_callB call_len_seq (by rfl) T.f_len PySem.boot_len (pa_cons (pv 0) pa_nil)) (pe_callB call_len_seq (by rfl) T.f_len PySem.boot_len (pa_cons (pv 1) pa_nil)) (nomark _)) (pe_one (pe_callB (cr_all rfl) (by rfl) T.f_all (by decide +kernel) (pa_cons (pe_lc (own := [("_law_one", 2), ("_law_other", 3)]) (g := (gTup K 2 (gCons (gName 2) (gCons (gName 3) gNil)))) rfl sc_law_same.nd (RZ.pi_zipA (by rfl) T.f_zip (pa_cons (pv 0) (pa_cons (pv 1) pa_nil))) (blkOk_by (own := [("_law_one", 2), ("_law_other", 3)]) (N := ["_law_found", "_law_due", "_law_one", "_law_other"]) (sc := defScope s_law_same) (by decide +kernel)) (fun _ _ _ _ _ => pg_tup rfl (pgs_cons (pg_name (i := 2) sc_law_same.nd rfl (Or.inl rfl) (Or.inr rfl)) (pgs_cons (pg_name (i := 3) sc_law_same.nd rfl (Or.inl rfl) (Or.inr rfl)) pgs_nil))) (fun _ _ _ _ _ => pts_nil) (fun _ _ _ _ _ => (pe_own o_law_same hr rfl pass0 (pa_cons (pv 2) (pa_cons (pv 3) pa_nil))))) pa_nil))))))) pss_nil)
      (pss_cons (ps_if (pt_cmpR op_isN (pv 1) pe_non (nomark _)) (pss_one (ps_ret (pe_cmpR op_isN (pv 0) pe_non (nomark _)))) pss_nil)
      (pss_cons (ps_if (PW.pt (pw_or (pt_cmpR op_ne (pe_callB call_isi (by rfl) T.f_isinstance PyProof.Rows.boot_isinstance (pa_cons (pv 0) (pa_cons (pe_bltn (v := .ty "bool") rfl T.f_bool boot_bool rfl) pa_nil))) (pe_callB call_isi (by rfl) T.f_isinstance PyProof.Rows.boot_isinstance (pa_cons (pv 1) (pa_cons (pe_bltn (v := .ty "bool") rfl T.f_bool boot_bool rfl) pa_nil))) (nomark _)) (pw_or1 (pt_cmpR op_ne (pe_callB call_isi (by rfl) T.f_isinstance PyProof.Rows.boot_isinstance (pa_cons (pv 0) (pa_cons (pe_bltn (v := .ty "int") rfl T.f_int boot_int rfl) pa_nil))) (pe_callB call_isi (by rfl) T.f_isinstance PyProof.Rows.boot_isinstance (pa_cons (pv 1) (pa_cons (pe_bltn (v := .ty "int") rfl T.f_int boot_int rfl) pa_nil))) (nomark _))))) (pss_one (ps_ret pe_bl)) pss_nil)
      (pss_one (ps_ret (pe_and (pe_cmpR op_eq (pe_callB call_isi (by rfl) T.f_isinstance PyProof.Rows.boot_isinstance (pa_cons (pv 0) (pa_cons (pe_bltn (v := .ty "str") rfl T.f_str boot_str rfl) pa_nil))) (pe_callB call_isi (by rfl) T.f_isinstance PyProof.Rows.boot_isinstance (pa_cons (pv 1) (pa_cons (pe_bltn (v := .ty "str") rfl T.f_str boot_str rfl) pa_nil))) (nomark _)) (pe_one (pe_cmpR op_eq (pv 0) (pv 1) (nomark _))))))))) , ?_⟩
  have cs : (flatV u = true ∧ v = u) ∨ ∃ (a b : Addr) (xs ys : List V), v = .ref a ∧ u = .ref b ∧ ((SqL K H a xs ∧ SqL K H b ys) ∨ (SqT K H a xs ∧ SqT K H b ys)) ∧ xs.length = ys.length ∧ xs.length ≤ 1000 ∧ ∀ (H1 : Hp), Same H H1 → ∀ (i : Nat) (x y : V) (Q : VK) (E : XK), xs[i]? = some x → ys[i]? = some y → (∀ H2, Same H1 H2 → Q (.bl true) H2) → spS K n [x, y] H1 Q E := by
    cases n with
    | zero => exact .inl hs
    | succ m =>
      rcases hs with h | ⟨a, b, xs, ys, e1, e2, h, l, l2, q⟩
      · exact .inl h
      · exact .inr ⟨a, b, xs, ys, e1, e2, h, l, l2, fun H1 s1 i x y Q E hx hy k => ⟨x, y, rfl, (q i x y hx hy).same s1, k⟩⟩
  rcases cs with ⟨hf, rfl⟩ | ⟨a, b, xs, ys, rfl, rfl, hh, hl, hl2, hq⟩
  · have t4 := flat_ty4 hf
    obtain ⟨⟨b1, o1⟩, ⟨b2, o2⟩, ⟨b3, o3⟩⟩ := one_f (K := K) t4
    refine ⟨_, rfl, (by show 2 ≤ sizeLine; decide), fun p hp => ⟨v, p, [.ty "list", .ty "tuple"], _, [.type "list", .type "tuple"], false, rfl, upd_same, .cons (.ty _) (.cons (.ty _) .nil), flat_ty hf, any_f t4, _, rfl, iteF ?_⟩⟩
    refine ⟨_, rfl, rfl, _, rfl, ?_⟩
    refine ite2 (fun hc => ?_) (fun hc => ?_)
    · refine ⟨_, rfl, rfl, ?_⟩
      rw [hc]
      exact k _ (same_upd hp)
    · have ty : ∀ (H1 : Hp), TyX K H1 v (.type (tyF v)) := fun H1 => flat_ty hf
      have nb : (!decide (V.bl b1 = V.bl b1)) = false := by simp
      have nb2 : (!decide (V.bl b2 = V.bl b2)) = false := by simp
      have e3 : decide (V.bl b3 = V.bl b3) = true := by simp
      have ev : decide (v = v) = true := by simp
      have sc : scal v v = true := by
        cases v with
        | non => exact absurd (decide_eq_true rfl) hc
        | bl _ => rfl
        | int _ => rfl
        | str _ => rfl
        | _ => cases hf
      refine ⟨_, rfl, v, _, _, _, b1, rfl, .ty _, ty _, o1, _, rfl, v, _, _, _, b1, rfl, .ty _, ty _, o1, rfl, _, rfl, ?_⟩
      rw [nb]
      refine iteF ⟨_, rfl, v, _, _, _, b2, rfl, .ty _, ty _, o2, _, rfl, v, _, _, _, b2, rfl, .ty _, ty _, o2, rfl, _, rfl, ?_⟩
      rw [nb2]
      refine iteF ⟨_, rfl, v, _, _, _, b3, rfl, .ty _, ty _, o3, _, rfl, v, _, _, _, b3, rfl, .ty _, ty _, o3, rfl, _, rfl, ?_⟩
      rw [e3]
      refine iteT ⟨_, rfl, _, rfl, sc, ?_⟩
      rw [ev]
      exact k _ (same_upd hp)
  · have key : ∃ (t : String) (bl : Bool), PySem.W.kitOne K (.type t) (.type "list") = some bl ∧ PySem.W.kitAny K (.type t) [.type "list", .type "tuple"] = some true ∧ (∀ H1, Same H H1 → TyX K H1 (.ref a) (.type t) ∧ TyX K H1 (.ref b) (.type t)) := by
      rcases hh with ⟨ha, hb⟩ | ⟨ha, hb⟩
      · exact ⟨"list", true, kit_ty (by decide +kernel), any_lt, fun H1 s1 => ⟨tyL (s1.seq ha), tyL (s1.seq hb)⟩⟩
      · exact ⟨"tuple", false, kit_ty (by decide +kernel), any_tt, fun H1 s1 => ⟨tyT (sameT s1 ha), tyT (sameT s1 hb)⟩⟩
    obtain ⟨t, bl, o1, o2, ty⟩ := key
    have sq : ∀ H1, Same H H1 → (SqL K H1 a xs ∨ SqT K H1 a xs) ∧ (SqL K H1 b ys ∨ SqT K H1 b ys) := fun H1 s1 => by
      rcases hh with ⟨ha, hb⟩ | ⟨ha, hb⟩
      · exact ⟨.inl (s1.seq ha), .inl (s1.seq hb)⟩
      · exact ⟨.inr (sameT s1 ha), .inr (sameT s1 hb)⟩
    refine ⟨_, rfl, (by show 2 ≤ sizeLine; decide), fun p hp => ⟨.ref b, p, [.ty "list", .ty "tuple"], _, [.type "list", .type "tuple"], true, rfl, upd_same, .cons (.ty _) (.cons (.ty _) .nil), (ty _ (same_upd hp)).2, o2, _, rfl, iteT ?_⟩⟩
    have s1 : Same H (L2.upd H p (.tup [.ty "list", .ty "tuple"])) := same_upd hp
    refine ⟨_, rfl, .ref a, _, _, _, bl, rfl, .ty _, (ty _ s1).1, o1, _, rfl, .ref b, _, _, _, bl, rfl, .ty _, (ty _ s1).2, o1, rfl, _, rfl, ?_⟩
    rw [show (!decide (V.bl bl = V.bl bl)) = false from by simp]
    refine iteF ⟨_, rfl, (by show 2 ≤ sizeLine; decide), fun p2 hp2 => ⟨.ref a, p2, [.ty "list", .ty "tuple"], _, [.type "list", .type "tuple"], true, rfl, upd_same, .cons (.ty _) (.cons (.ty _) .nil), (ty _ (s1.trans (same_upd hp2))).1, o2, _, rfl, iteF ?_⟩⟩
    have s2 := s1.trans (same_upd (o := .tup [.ty "list", .ty "tuple"]) hp2)
    refine ⟨_, rfl, a, xs, rfl, (sq _ s2).1, _, rfl, b, ys, rfl, (sq _ s2).2, rfl, _, rfl, ?_⟩
    rw [hl, show decide (V.int (ys.length : Int) = V.int (ys.length : Int)) = true from decide_eq_true rfl]
    refine iteT ?_
    have core : ∀ (J : It) (G : Hp → Prop), Walk J xs.length G (YPair (fun i => xs[i]?) (fun i => ys[i]?)) → (∀ H1, Same H H1 → G H1) → ∀ D, (L2.upd (L2.upd H p (.tup [.ty "list", .ty "tuple"])) p2 (.tup [.ty "list", .ty "tuple"])) D = none → _ := fun J G w hG D hD =>
      lc_it w (vs := [2, 3]) (σ := [some (.ref a), some (.ref b), none, none]) (g := gTup K 2 (gCons (gName 2) (gCons (gName 3) gNil))) (tt := fun _ H Q => Q true H) (te := tCall (spS K n) [] E0 (tCons (tVar 2) (tCons (tVar 3) tNil))) (Qd := fun H1 => rAll K [.ref D] H1 Q)
        (fun i H1 => Same H H1 ∧ H D = none ∧ H1 D = some (.lst ((List.replicate i true).map V.bl)) ∧ i ≤ xs.length) ⟨s2.trans (same_upd hD), s2.free hD, upd_same, Nat.zero_le _⟩ (fun i H1 _ h => hG H1 h.1)
        (fun i v H1 H2 hi ⟨q1, q2, q3, q4⟩ ⟨Tp, x, y, e1, e2, e3, hx, hy⟩ => by
          subst e1 e3
          have q1' := q1.trans (same_upd (o := .tup [x, y]) e2)
          refine ⟨Tp, _, rfl, SqT.of upd_same, rfl, x, _, rfl, y, _, rfl, rfl, rfl, iteT ⟨_, rfl, _, rfl, hq _ q1' i x y _ _ hx hy fun H3 q5 => ?_⟩⟩
          have hD3 : H3 D = some (.lst ((List.replicate i true).map V.bl)) := q5 _ _ (by rw [upd_ne (ne_of_none q3 e2)]; exact q3)
          refine ⟨_, hD3, ?_, fun c o h => ?_, q2, ?_, hi⟩
          · rw [List.length_map, List.length_replicate]
            exact small1000 (by omega)
          · rw [upd_ne (ne_of_none h q2)]
            exact q5 _ _ (q1' _ _ h)
          · rw [upd_same, List.replicate_succ', List.map_append]
            rfl)
        (fun H1 ⟨q1, q2, q3, q4⟩ => ⟨D, List.replicate xs.length true, rfl, SqL.of q3, by rw [show (List.replicate xs.length true).all id = true from by simp]; exact k H1 q1⟩)
    rcases hh with ⟨ha, hb⟩ | ⟨ha, hb⟩
    · exact ⟨_, rfl, _, rfl, a, b, xs, ys, rfl, .inl ⟨s2.seq ha, s2.seq hb, core _ _ (walk_zip (by omega)) (fun H1 s => ⟨s.seq ha, s.seq hb⟩)⟩⟩
    · exact ⟨_, rfl, _, rfl, a, b, xs, ys, rfl, .inr ⟨sameT s2 ha, sameT s2 hb, core _ _ (walk_zipT hl) (fun H1 s => ⟨sameT s ha, sameT s hb⟩)⟩⟩
end
end Xk
end
section
set_option Elab.async false
set_option linter.all false
set_option maxRecDepth 100000
set_option maxHeartbeats 4000000
namespace Xk
open PySem PySem.Spec PyProof.Rows L2 Xh LamX NdefX
/-- N to the power e by P -/
def rpow (N : Nat) (e : Int) (P : Nat) : Nat := if N = 0 then (if e = 0 then 1 else 0) else N ^ (e.fmod ((P : Int) - 1)).toNat % P
def spRPow : Sp := fun vs H Q _ => ∃ (N P : Nat) (e : Int), vs = [.int N, .int e, .int P] ∧ 2 ≤ P ∧ P ≤ 1000 ∧ N < P ∧ Q (.int (rpow N e P)) H
theorem fmodN (a b : Nat) : (a : Int).fmod (b : Int) = ((a % b : Nat) : Int) := by
  rw [Int.fmod_eq_emod_of_nonneg _ (Int.natCast_nonneg b), Int.natCast_emod]
def slotN (i : Nat) (σ : L2.St) : Nat := match σ[i]? with
  | some (some (.int s)) => s.toNat
  | _ => 0
/-! ### powers by any multiplication -/
/-- c multiplies: Rel i x: x is the i-th power; what power_by promises by that -/
def TTpow : Addr → Sp → Sp := fun f c vs H Q E => ∃ (u o : V) (e : Nat) (Rel : Nat → V → Hp → Prop) (T : List (Addr × Str)), vs = [.ref f, u, o, .int e] ∧ Tabs T H ∧ Rel 0 u H ∧ Rel 1 o H ∧ (∀ i x H1 H2, Gr T H1 H2 → Rel i x H1 → Rel i x H2) ∧
  (∀ i j x y H1, Gr T H H1 → Rel i x H1 → Rel j y H1 → ∀ Q', (∀ z H2, Gr T H1 H2 → Rel (i + j) z H2 → Q' z H2) → c [x, y] H1 Q' E) ∧ ∀ z H1, Gr T H H1 → Rel e z H1 → Q z H1
/-- the lambda in a row `return g(lambda .., ..)` -/
def lamP (s : Stmt) : Arguments × Expr × Scope := match s with
  | .Return (some (.Call _ (.Lambda p b c _ :: _) _ _)) _ => (p, b, c)
  | s => (defArgs s, .Name "x" ⟨0, 0, 0, 0⟩, defScope s)
/-- of rests -/
def spMulP : List (Option V) → Sp := fun ws vs H Q _ => ∃ a b M : Nat, ws = [some (.int M)] ∧ vs = [.int a, .int b] ∧ a < M ∧ b < M ∧ 2 ≤ M ∧ M ≤ 1000 ∧ Q (.int ((a * b % M : Nat) : Int)) H
def rpQ : Str := (envOfC "rest_power" ⟨.function, [], false, false, []⟩ 0 0 .none).qual ++ "<lambda>"
def spRPowT (T : List (Addr × Str)) : Sp := fun vs H Q _ => ∃ (N P : Nat) (e : Int), vs = [.int N, .int e, .int P] ∧ 2 ≤ P ∧ P ≤ 1000 ∧ N < P ∧ Tabs T H ∧ ∀ H', Gr T H H' → Q (.int (rpow N e P)) H'
section
variable {P : Program} {w : World} {K : PySem.W.Frag} {mg : Str → Option Value} {base : Heap}

end
end Xk
end
section
set_option Elab.async false
set_option linter.all false
set_option maxRecDepth 100000
set_option maxHeartbeats 4000000
namespace Xk
open PySem PySem.Spec PyProof.Rows L2 Xh LamX NdefX
/-! ### rests -/
/-- what is wanted of a refusal: an own exception of the class at C, its word alone -/
def Ex (H : Hp) (E : XK) (C : Addr) (nm : Str) : Prop := ∀ (d : Addr) (H' : Hp), Same H H' → H' d = some (.xd [("word", .str nm)]) → H d = none → E (.ref C) (some d) H'
theorem Ex.imp {H : Hp} {E E' : XK} {C : Addr} {nm : Str} (x : Ex H E C nm) (h : ∀ c d H', E c d H' → E' c d H') : Ex H E' C nm := fun d H' a b c => h _ _ _ (x d H' a b c)
def spIsPrime : Sp := fun vs H Q _ => ∃ p : Int, vs = [.int p] ∧ Q (.bl (decide (p ∈ primes))) H
def spIsNum : Sp := fun vs H Q _ => ∃ n : Int, vs = [.int n] ∧ Q (.bl true) H
def spIsRest : Sp := fun vs H Q _ => ∃ n p : Int, vs = [.int n, .int p] ∧ Q (.bl (decide (0 ≤ n ∧ n < p))) H
def spRefP (C : Addr) : Sp := fun vs H Q E => ∃ p : Int, vs = [.int p] ∧ (p ∈ primes → Q .non H) ∧ (p ∉ primes → Ex H E C "BadPrime")
theorem inV_ints (p : Int) : ∀ ns : List Int, inV (.int p) (ns.map V.int) = decide (p ∈ ns)
  | [] => rfl
  | n :: ns => by
    have ih := inV_ints p ns
    unfold inV at ih ⊢
    rw [List.map_cons, List.any_cons, ih]
    show ((n == p) || decide (p ∈ ns)) = decide (p ∈ n :: ns)
    by_cases h : n = p
    · subst h
      simp
    · have h' : p ≠ n := fun z => h z.symm
      simp [h, h']
theorem all_flat (ns : List Int) : (ns.map V.int).all flatV = true := by
  rw [List.all_eq_true]
  intro x hx
  obtain ⟨n, _, rfl⟩ := List.mem_map.mp hx
  rfl
section
variable {P : Program} {w : World} {K : PySem.W.Frag} {mg : Str → Option Value} {base : Heap}

end
end Xk
end
section
set_option Elab.async false
set_option linter.all false
/-! a text of formulas cut into words -/
namespace Xp
open PySem
/-- a letter or a figure of ASCII -/
def wordly (c : Nat) : Bool := (48 ≤ c && c ≤ 57) || (65 ≤ c && c ≤ 90) || (97 ≤ c && c ≤ 122)
def flush (acc : List Nat) : List (List Nat) := if acc = [] then [] else [acc]
/-- the words of a text, where acc is under way -/
def wsL : List Nat → List Nat → List (List Nat)
  | acc, [] => flush acc
  | acc, c :: r => if wordly c then wsL (acc ++ [c]) r else flush acc ++ ((if c = 32 then [] else [[c]]) ++ wsL [] r)
theorem wsL_no {c : Nat} (hc : wordly c = false) (acc r : List Nat) : wsL acc (c :: r) = flush acc ++ ((if c = 32 then [] else [[c]]) ++ wsL [] r) := by
  rw [wsL, if_neg (by rw [hc]; decide)]
/-- nothing wordly at its head -/
def Hd (t : List Nat) : Prop := ∀ c, t.head? = some c → wordly c = false
theorem wsL_app : ∀ (t1 t2 acc : List Nat), Hd t2 → wsL acc (t1 ++ t2) = wsL acc t1 ++ wsL [] t2
  | [], [], acc, _ => by
    show flush acc = flush acc ++ flush []
    simp [flush]
  | [], c :: r, acc, h => by
    have hc : wordly c = false := h c rfl
    show wsL acc (c :: r) = flush acc ++ wsL [] (c :: r)
    rw [wsL_no hc, wsL_no hc]
    simp [flush]
  | c :: t1, t2, acc, h => by
    show wsL acc (c :: (t1 ++ t2)) = wsL acc (c :: t1) ++ wsL [] t2
    by_cases g : wordly c = true
    · rw [wsL, if_pos g, wsL, if_pos g, wsL_app t1 t2 _ h]
    · rw [wsL, if_neg g, wsL, if_neg g, wsL_app t1 t2 [] h, List.append_assoc, List.append_assoc]
/-- a sign that is none of a word ends what stands before it -/
theorem wsL_sign (t1 t2 : List Nat) {c : Nat} (h : wordly c = false) : wsL [] (t1 ++ c :: t2) = wsL [] t1 ++ ((if c = 32 then [] else [[c]]) ++ wsL [] t2) := by
  rw [wsL_app t1 (c :: t2) [] (fun d hd => by cases hd; exact h), wsL, if_neg (by rw [h]; decide)]
  simp [flush]
theorem wsL_blanks : ∀ (n : Nat) (t : List Nat), wsL [] (List.replicate n 32 ++ t) = wsL [] t
  | 0, t => rfl
  | n + 1, t => by
    rw [List.replicate_succ, List.cons_append, wsL, if_neg (by decide), if_pos rfl, wsL_blanks n t]
    simp [flush]
theorem wsL_tail : ∀ (n : Nat) (t : List Nat), wsL [] (t ++ List.replicate n 32) = wsL [] t
  | 0, t => by simp
  | n + 1, t => by
    rw [List.replicate_succ, wsL_sign t _ (by decide), if_pos rfl]
    have h := wsL_blanks n []
    rw [List.append_nil] at h
    rw [h]
    show wsL [] t ++ ([] ++ flush []) = _
    simp [flush]
theorem wsL_word : ∀ (w acc : List Nat), (∀ c ∈ w, wordly c = true) → wsL acc w = flush (acc ++ w)
  | [], acc, _ => by simp [wsL]
  | c :: w, acc, h => by
    rw [wsL, if_pos (h c List.mem_cons_self), wsL_word w _ fun d hd => h d (List.mem_cons_of_mem _ hd), List.append_assoc]
    rfl
end Xp
end
section
set_option Elab.async false
set_option linter.all false
set_option maxRecDepth 100000
set_option maxHeartbeats 4000000
namespace Xk
open PySem PySem.Spec PyProof.Rows L2 Xh LamX NdefX
/-! ### words of formulas -/
theorem alnum_of : ∀ c : Nat, c < 128 → Unicode.isAlnum c = Xp.wordly c := by decide +kernel
theorem digit_of : ∀ c : Nat, c < 128 → Unicode.isDigit c = (decide (48 ≤ c) && decide (c ≤ 57)) := by decide +kernel
theorem lower_of : ∀ c : Nat, c < 128 → (Unicode.isAlpha c && !(Unicode.isUpper c || Unicode.isTitle c)) = (decide (97 ≤ c) && decide (c ≤ 122)) ∧ Unicode.isLower c = (decide (97 ≤ c) && decide (c ≤ 122)) := by decide +kernel
theorem ascii_tl (y : Str) : Txt.isascii y = (TL.tl y).all (· < 128) := by
  unfold Txt.isascii
  exact (Array.all_toList (p := fun c => decide (c < 128)) (as := y.cps)).symm
theorem line8 {n : Nat} (h : n ≤ 10000) : n ≤ sizeLine := Nat.le_trans h (by decide)
/-- figures, at most m, no nought ahead -/
def figB (m : Nat) (w : List Nat) : Bool := decide (w ≠ []) && (w.all fun c => 48 ≤ c && c ≤ 57) && decide (w.length ≤ m) && (decide (w = [48]) || decide (w.head? ≠ some 48))
/-- a name -/
def nameB (w : List Nat) : Bool := decide (w ≠ []) && decide (w.length ≤ 8) && w.all fun c => 97 ≤ c && c ≤ 122
def spWordly : Sp := fun vs H Q _ => ∃ c : Nat, vs = [.str ⟨#[c]⟩] ∧ Q (.bl (Xp.wordly c)) H
def spFigB : Sp := fun vs H Q _ => ∃ (y : Str) (m : Nat), vs = [.str y, .int m] ∧ y.length ≤ 5000 ∧ Q (.bl (figB m (TL.tl y))) H
def spNameB : Sp := fun vs H Q _ => ∃ y : Str, vs = [.str y] ∧ y.length ≤ 5000 ∧ Q (.bl (nameB (TL.tl y))) H
theorem wordly_lt {c : Nat} (h : Xp.wordly c = true) : c < 128 := by
  unfold Xp.wordly at h
  simp at h
  omega
section
variable {P : Program} {w : World} {K : PySem.W.Frag} {mg : Str → Option Value} {base : Heap}
theorem sc_is_wordly : FnScope (["sign"] : List Str) ["sign"] (defScope s_is_wordly) := ⟨rfl, rfl, rfl, by decide +kernel, rfl, by decide +kernel, by decide +kernel⟩
theorem ok_is_wordly {f : Addr} {fd : FuncData} (F : FunD K "is_wordly" "is_wordly" (defArgs s_is_wordly) (defBody s_is_wordly) (defScope s_is_wordly) [] [] f fd) : FnOk P w K mg base CX0 1 f fd ["sign"] spWordly := by
  refine F.ok sc_is_wordly (fun vs H Q E h => ?_) (fun cdv A outer s H vs Q E hr h => ?_)
  · obtain ⟨c, rfl, _⟩ := h
    rfl
  · obtain ⟨c, rfl, k⟩ := h
    refine ⟨_, PSs.nox (pss_one (ps_ret (pe_and (pe_m0 PySem.F.slot_str_isascii PySem.F.type_str_isascii mt_isascii (pv 0)) (pe_one (pe_m0 PySem.F.slot_str_isalnum PySem.F.type_str_isalnum mt_isalnum (pv 0)))))) , ?_⟩
    refine ⟨_, rfl, ⟨_, rfl⟩, _, rfl, rfl, trivial, _, rfl, ?_⟩
    have e1 : Txt.isascii ⟨#[c]⟩ = decide (c < 128) := by
      rw [ascii_tl]
      show (decide (c < 128) && true) = _
      rw [Bool.and_true]
    have e2 : Txt.isalnum ⟨#[c]⟩ = Unicode.isAlnum c := by
      unfold Txt.isalnum
      rw [← Array.all_toList]
      show (true && (Unicode.isAlnum c && true)) = _
      rw [Bool.true_and, Bool.and_true]
    rw [e1]
    by_cases g : c < 128
    · rw [decide_eq_true g]
      refine iteT ⟨_, rfl, ⟨_, rfl⟩, _, rfl, rfl, trivial, ?_⟩
      rw [e2, alnum_of c g]
      exact k
    · rw [decide_eq_false g]
      refine iteF ?_
      have : Xp.wordly c = false := by
        cases h : Xp.wordly c with
        | false => rfl
        | true => exact absurd (wordly_lt h) g
      rw [this] at k
      exact k
theorem all_ascii {w : List Nat} {q : Nat → Bool} (h : w.all (· < 128) = true) {r : Nat → Bool} (e : ∀ c, c < 128 → q c = r c) : w.all q = w.all r := by
  have hx := List.all_eq_true.mp h
  rw [Bool.eq_iff_iff, List.all_eq_true, List.all_eq_true]
  exact ⟨fun z c hc => (e c (by simpa using hx c hc)).symm.trans (z c hc), fun z c hc => (e c (by simpa using hx c hc)).trans (z c hc)⟩
theorem not_all {w : List Nat} (h : w.all (· < 128) = false) {r : Nat → Bool} (e : ∀ c, r c = true → c < 128) : w.all r = false := by
  obtain ⟨c, hc, hn⟩ := List.all_eq_false.mp h
  exact List.all_eq_false.mpr ⟨c, hc, fun z => hn (by simpa using e c z)⟩
theorem ne_tl (y : Str) : decide (y.length > 0) = decide (TL.tl y ≠ []) := by
  rw [TL.len_tl]
  cases TL.tl y with
  | nil => rfl
  | cons c r => simp
theorem str_one (a : Str) (c : Nat) : decide (V.str a = V.str ⟨#[c]⟩) = decide (TL.tl a = [c]) := by
  by_cases h : TL.tl a = [c]
  · have : a = ⟨#[c]⟩ := TL.ext_tl h
    rw [decide_eq_true h, this]
    exact decide_eq_true rfl
  · rw [decide_eq_false h, decide_eq_false (fun z => h (by rw [V.str.inj z]))]
theorem sc_is_figures : FnScope (["word", "most"] : List Str) ["word", "most"] (defScope s_is_figures) := ⟨rfl, rfl, rfl, by decide +kernel, rfl, by decide +kernel, by decide +kernel⟩
theorem ok_is_figures {f : Addr} {fd : FuncData} (F : FunD K "is_figures" "is_figures" (defArgs s_is_figures) (defBody s_is_figures) (defScope s_is_figures) [] [] f fd) (T : Fre mg) : FnOk P w K mg base CX0 1 f fd ["word", "most"] spFigB := by
  refine F.ok sc_is_figures (fun vs H Q E h => ?_) (fun cdv A outer s H vs Q E hr h => ?_)
  · obtain ⟨y, m, rfl, _⟩ := h
    rfl
  · obtain ⟨y, m, rfl, ly, k⟩ := h
    refine ⟨_, PSs.nox (pss_cons (ps_if (PW.pt (pw_or (pt_not (pt_val (pe_m0 PySem.F.slot_str_isascii PySem.F.type_str_isascii mt_isascii (pv 0)))) (pw_or (pt_not (pt_val (pe_m0 PySem.F.slot_str_isdigit PySem.F.type_str_isdigit mt_isdigit (pv 0)))) (pw_or1 (pt_cmpR op_gt (pe_callB call_len_str (by rfl) T.f_len PySem.boot_len (pa_cons (pv 0) pa_nil)) (pv 1) (nomark _)))))) (pss_one (ps_ret pe_bl)) pss_nil)
      (pss_one (ps_ret (pe_or (pe_cmpR op_eq (pv 0) pe_str (nomark _)) (pe_one (pe_cmpR op_ne (pe_ix ix_str (pv 0) pe_int (fun _ _ => rfl)) pe_str (nomark _))))))) , ?_⟩
    have lt : y.length = (TL.tl y).length := TL.len_tl y
    have ed : Txt.isdigit y = (decide (TL.tl y ≠ []) && (TL.tl y).all Unicode.isDigit) := by
      unfold Txt.isdigit
      rw [← Array.all_toList, ne_tl]
    unfold figB at k
    refine ⟨_, rfl, ⟨_, rfl⟩, _, rfl, rfl, trivial, _, rfl, ?_⟩
    rw [ascii_tl]
    cases ga : (TL.tl y).all (· < 128) with
    | false =>
      rw [not_all ga (r := fun c => 48 ≤ c && c ≤ 57) (fun c hc => by simp at hc; omega)] at k
      simp only [Bool.and_false, Bool.false_and] at k
      refine iteT ?_
      exact iteT k
    | true =>
      refine iteF ⟨_, rfl, ⟨_, rfl⟩, _, rfl, rfl, trivial, _, rfl, ?_⟩
      rw [ed, all_ascii ga digit_of]
      cases gd : (decide (TL.tl y ≠ []) && (TL.tl y).all fun c => decide (48 ≤ c) && decide (c ≤ 57)) with
      | false =>
        rw [gd] at k
        simp only [Bool.false_and] at k
        refine iteT ?_
        exact iteT k
      | true =>
        rw [gd] at k
        refine iteF ⟨_, rfl, y, rfl, line8 (by omega), _, rfl, _, _, rfl, rfl, _, rfl, ?_⟩
        by_cases gm : y.length ≤ m
        · rw [decide_eq_false (show ¬ (m : Int) < (y.length : Int) by omega)]
          rw [decide_eq_true (show (TL.tl y).length ≤ m by omega)] at k
          refine iteF ?_
          have nn : TL.tl y ≠ [] := of_decide_eq_true (Bool.and_eq_true_iff.mp gd).1
          refine ⟨_, rfl, rfl, _, rfl, ?_⟩
          rw [show (Str.ofString "0") = (⟨#[48]⟩ : Str) from rfl, str_one]
          by_cases z0 : TL.tl y = [48]
          · rw [decide_eq_true z0]
            rw [decide_eq_true z0] at k
            exact iteT k
          · rw [decide_eq_false z0]
            rw [decide_eq_false z0] at k
            refine iteF ?_
            obtain ⟨c, r, e⟩ : ∃ c r, TL.tl y = c :: r := by
              cases h : TL.tl y with
              | nil => exact absurd h nn
              | cons c r => exact ⟨c, r, rfl⟩
            have at0 : atI y.cps.toList 0 = some c := by
              show atI (TL.tl y) ((0 : Nat) : Int) = some c
              rw [e]
              exact atI_nat (j := 0) (xs := c :: r) rfl
            refine ⟨_, rfl, y, 0, c, rfl, rfl, line8 (by omega), at0, rfl, ?_⟩
            rw [str_one]
            rw [e] at k
            simp only [Bool.and_true, Bool.true_and, Bool.false_or, List.head?_cons] at k
            have e2 : (!decide (TL.tl (⟨#[c]⟩ : Str) = [48])) = decide (some c ≠ some 48) := by
              show (!decide ([c] = [48])) = _
              by_cases h : c = 48
              · subst h
                rfl
              · simp [h]
            rw [e2]
            exact k
        · rw [decide_eq_true (show (m : Int) < (y.length : Int) by omega)]
          rw [decide_eq_false (show ¬ (TL.tl y).length ≤ m by omega)] at k
          simp only [Bool.and_false, Bool.false_and] at k
          exact iteT k
theorem name_low (y : Str) (ga : (TL.tl y).all (· < 128) = true) : (Txt.isalpha y && Txt.islower y) = (decide (TL.tl y ≠ []) && (TL.tl y).all fun c => 97 ≤ c && c ≤ 122) := by
  have e1 : Txt.isalpha y = (decide (TL.tl y ≠ []) && (TL.tl y).all Unicode.isAlpha) := by
    unfold Txt.isalpha
    rw [← Array.all_toList, ne_tl]
  have e2 : Txt.islower y = ((TL.tl y).any Unicode.isLower && !(TL.tl y).any fun c => Unicode.isUpper c || Unicode.isTitle c) := by
    unfold Txt.islower
    rw [← Array.any_toList, ← Array.any_toList]
  rw [e1, e2]
  have hx : ∀ c ∈ TL.tl y, c < 128 := fun c hc => by simpa using List.all_eq_true.mp ga c hc
  generalize TL.tl y = l at hx
  rw [Bool.eq_iff_iff]
  simp only [Bool.and_eq_true, Bool.not_eq_true', List.all_eq_true, List.any_eq_true, List.any_eq_false, decide_eq_true_eq]
  constructor
  · rintro ⟨⟨hn, ha⟩, _, hu⟩
    refine ⟨hn, fun c hc => ?_⟩
    have h1 := (lower_of c (hx c hc)).1
    have h2 : (Unicode.isUpper c || Unicode.isTitle c) = false := by simpa using hu c hc
    rw [ha c hc, h2] at h1
    simpa using h1.symm
  · rintro ⟨hn, ha⟩
    have both : ∀ c ∈ l, (Unicode.isAlpha c && !(Unicode.isUpper c || Unicode.isTitle c)) = true ∧ Unicode.isLower c = true := fun c hc => by
      obtain ⟨h1, h2⟩ := lower_of c (hx c hc)
      have h3 : (decide (97 ≤ c) && decide (c ≤ 122)) = true := by simpa using ha c hc
      exact ⟨h1.trans h3, h2.trans h3⟩
    refine ⟨⟨hn, fun c hc => (Bool.and_eq_true_iff.mp (both c hc).1).1⟩, ?_, fun c hc => ?_⟩
    · cases l with
      | nil => exact absurd rfl hn
      | cons c r => exact ⟨c, List.mem_cons_self, (both c List.mem_cons_self).2⟩
    · have := (Bool.and_eq_true_iff.mp (both c hc).1).2
      simpa using this
theorem sc_is_name : FnScope (["told"] : List Str) ["told"] (defScope s_is_name) := ⟨rfl, rfl, rfl, by decide +kernel, rfl, by decide +kernel, by decide +kernel⟩
theorem ok_is_name {f : Addr} {fd : FuncData} (F : FunD K "is_name" "is_name" (defArgs s_is_name) (defBody s_is_name) (defScope s_is_name) [] [] f fd) (T : Fre mg) (mL : ∃ t, mg "MOST_LETTERS" = some (.int 8 t)) : FnOk P w K mg base CX0 1 f fd ["told"] spNameB := by
  refine F.ok sc_is_name (fun vs H Q E h => ?_) (fun cdv A outer s H vs Q E hr h => ?_)
  · obtain ⟨y, rfl, _⟩ := h
    rfl
  · obtain ⟨y, rfl, ly, k⟩ := h
    obtain ⟨tL, mL⟩ := mL
    refine ⟨_, PSs.nox (pss_cons (ps_if (PW.pt (pw_or (pt_not (pt_val (pe_callB call_isi (by rfl) T.f_isinstance PyProof.Rows.boot_isinstance (pa_cons (pv 0) (pa_cons (pe_bltn (v := .ty "str") rfl T.f_str boot_str rfl) pa_nil))))) (pw_or1 (pt_cmpR op_gt (pe_callB call_len_str (by rfl) T.f_len PySem.boot_len (pa_cons (pv 0) pa_nil)) (pe_glob (v := .int 8) rfl mL ⟨_, rfl⟩) (nomark _))))) (pss_one (ps_ret pe_bl)) pss_nil)
      (pss_one (ps_ret (pe_and (pe_m0 PySem.F.slot_str_isascii PySem.F.type_str_isascii mt_isascii (pv 0)) (pe_and (pe_m0 PySem.F.slot_str_isalpha PySem.F.type_str_isalpha mt_isalpha (pv 0)) (pe_one (pe_m0 PySem.F.slot_str_islower PySem.F.type_str_islower mt_islower (pv 0)))))))) , ?_⟩
    have lt : y.length = (TL.tl y).length := TL.len_tl y
    unfold nameB at k
    refine ⟨_, rfl, .str y, _, _, _, true, rfl, .ty _, .base (.str y), kit_ty (by decide +kernel), _, rfl, iteF ⟨_, rfl, y, rfl, line8 (by omega), _, _, rfl, rfl, _, rfl, ?_⟩⟩
    by_cases g8 : y.length ≤ 8
    · rw [decide_eq_false (show ¬ (8 : Int) < (y.length : Int) by omega)]
      rw [decide_eq_true (show (TL.tl y).length ≤ 8 by omega), Bool.and_true] at k
      refine iteF ⟨_, rfl, ⟨_, rfl⟩, _, rfl, rfl, trivial, _, rfl, ?_⟩
      rw [ascii_tl]
      cases ga : (TL.tl y).all (· < 128) with
      | false =>
        rw [not_all ga (r := fun c => 97 ≤ c && c ≤ 122) (fun c hc => by simp at hc; omega), Bool.and_false] at k
        exact iteF k
      | true =>
        have h := name_low y ga
        refine iteT ⟨_, rfl, ⟨_, rfl⟩, _, rfl, rfl, trivial, _, rfl, ?_⟩
        cases gb : Txt.isalpha y with
        | false =>
          rw [gb, Bool.false_and] at h
          rw [← h] at k
          exact iteF k
        | true =>
          rw [gb, Bool.true_and] at h
          refine iteT ⟨_, rfl, ⟨_, rfl⟩, _, rfl, rfl, trivial, ?_⟩
          rw [h]
          exact k
    · rw [decide_eq_true (show (8 : Int) < (y.length : Int) by omega)]
      rw [decide_eq_false (show ¬ (TL.tl y).length ≤ 8 by omega), Bool.and_false, Bool.false_and] at k
      exact iteT k
end
end Xk
end
section
set_option Elab.async false
set_option linter.all false
/-! words with the places they begin at -/
namespace Xp
def flushP (at_ : Nat) (acc : List Nat) : List (Nat × List Nat) := if acc = [] then [] else [(at_ - acc.length, acc)]
def wsP : Nat → List Nat → List Nat → List (Nat × List Nat)
  | k, acc, [] => flushP k acc
  | k, acc, c :: r => if wordly c then wsP (k + 1) (acc ++ [c]) r else flushP k acc ++ ((if c = 32 then [] else [(k, [c])]) ++ wsP (k + 1) [] r)
theorem wsP_words : ∀ (t : List Nat) (k : Nat) (acc : List Nat), (wsP k acc t).map (·.2) = wsL acc t
  | [], k, acc => by
    show (flushP k acc).map (·.2) = flush acc
    unfold flushP flush
    by_cases h : acc = []
    · rw [if_pos h, if_pos h]; rfl
    · rw [if_neg h, if_neg h]; rfl
  | c :: r, k, acc => by
    by_cases g : wordly c = true
    · rw [wsP, if_pos g, wsL, if_pos g, wsP_words r]
    · rw [wsP, if_neg g, wsL, if_neg g, List.map_append, List.map_append, wsP_words r]
      have e1 : (flushP k acc).map (·.2) = flush acc := by
        unfold flushP flush
        by_cases h : acc = []
        · rw [if_pos h, if_pos h]; rfl
        · rw [if_neg h, if_neg h]; rfl
      rw [e1]
      by_cases h : c = 32
      · rw [if_pos h, if_pos h]; rfl
      · rw [if_neg h, if_neg h]; rfl
/-- a run of wordly signs to its end -/
theorem wsP_run : ∀ (w : List Nat) (t : List Nat) (k : Nat) (acc : List Nat), (∀ c ∈ w, wordly c = true) → Hd t → acc ++ w ≠ [] → wsP k acc (w ++ t) = (k + w.length - (acc ++ w).length, acc ++ w) :: wsP (k + w.length) [] t
  | [], [], k, acc, _, _, hn => by
    rw [List.append_nil] at hn
    show flushP k acc = _
    simp [flushP, hn, wsP]
  | [], c :: r, k, acc, _, ht, hn => by
    have hc : wordly c = false := ht c rfl
    rw [List.append_nil] at hn
    rw [List.nil_append, wsP, if_neg (by rw [hc]; decide), List.append_nil]
    show flushP k acc ++ _ = (k + 0 - acc.length, acc) :: wsP (k + 0) [] (c :: r)
    have h1 : wsP k [] (c :: r) = flushP k [] ++ ((if c = 32 then [] else [(k, [c])]) ++ wsP (k + 1) [] r) := by
      rw [wsP, if_neg (by rw [hc]; decide)]
    show _ = (k - acc.length, acc) :: wsP k [] (c :: r)
    rw [h1]
    simp [flushP, hn]
  | d :: w, t, k, acc, hw, ht, _ => by
    rw [List.cons_append, wsP, if_pos (hw d List.mem_cons_self), wsP_run w t (k + 1) (acc ++ [d]) (fun c hc => hw c (List.mem_cons_of_mem _ hc)) ht (by simp), List.append_assoc]
    show (k + 1 + w.length - (acc ++ d :: w).length, acc ++ d :: w) :: wsP (k + 1 + w.length) [] t = (k + (w.length + 1) - (acc ++ d :: w).length, acc ++ d :: w) :: wsP (k + (w.length + 1)) [] t
    rw [show k + 1 + w.length = k + (w.length + 1) by omega]
theorem wsP_other {c : Nat} (hc : wordly c = false) (k : Nat) (t : List Nat) : wsP k [] (c :: t) = (if c = 32 then [] else [(k, [c])]) ++ wsP (k + 1) [] t := by
  rw [wsP, if_neg (by rw [hc]; decide)]
  simp [flushP]
end Xp
end
section
set_option Elab.async false
set_option linter.all false
set_option maxRecDepth 100000
set_option maxHeartbeats 4000000
namespace Xk
open PySem PySem.Spec PyProof.Rows L2 Xh LamX NdefX
/-! ### a text cut into words -/
theorem line4 {n : Nat} (h : n ≤ 10000) : n < sizeLine := Nat.lt_of_le_of_lt h (by decide)
def PW (H : Hp) : List Addr → List (Nat × List Nat) → Prop
  | [], [] => True
  | a :: la, q :: ws => (∃ s : Str, H a = some (.tup [.int (q.1 : Int), .str s]) ∧ TL.tl s = q.2) ∧ PW H la ws
  | _, _ => False
theorem PW.len {H : Hp} : ∀ {la : List Addr} {ws : List (Nat × List Nat)}, PW H la ws → la.length = ws.length
  | [], [], _ => rfl
  | _ :: _, _ :: _, h => by rw [List.length_cons, List.length_cons, PW.len h.2]
  | [], _ :: _, h => h.elim
  | _ :: _, [], h => h.elim
theorem PW.keep {H H' : Hp} (k : ∀ a xs, H a = some (.tup xs) → H' a = some (.tup xs)) : ∀ {la : List Addr} {ws : List (Nat × List Nat)}, PW H la ws → PW H' la ws
  | [], [], _ => trivial
  | _ :: _, _ :: _, ⟨⟨s, h1, h2⟩, h⟩ => ⟨⟨s, k _ _ h1, h2⟩, PW.keep k h⟩
  | [], _ :: _, h => h.elim
  | _ :: _, [], h => h.elim
theorem drop_at {l : List Nat} {n c : Nat} (h : l[n]? = some c) : l.drop n = c :: l.drop (n + 1) := by
  obtain ⟨hn, rfl⟩ := List.getElem?_eq_some_iff.mp h
  exact List.drop_eq_getElem_cons hn
theorem tl_cutS (y : Str) (n e : Nat) (h1 : n ≤ e) (h2 : e ≤ y.length) : TL.tl (L2.cutS y (some n) (some e)) = ((TL.tl y).drop n).take (e - n) := by
  unfold L2.cutS
  rw [TL.tl_mk, HT.sIx_nat, HT.sIx_nat, Nat.min_eq_left (Nat.le_trans h1 h2), Nat.min_eq_left h2]
theorem PW.snoc {H : Hp} {a : Addr} {q : Nat × List Nat} {s : Str} (e : H a = some (.tup [.int (q.1 : Int), .str s])) (es : TL.tl s = q.2) : ∀ {la : List Addr} {ws : List (Nat × List Nat)}, PW H la ws → PW H (la ++ [a]) (ws ++ [q])
  | [], [], _ => ⟨⟨s, e, es⟩, trivial⟩
  | _ :: _, _ :: _, h => ⟨h.1, PW.snoc e es h.2⟩
  | [], _ :: _, h => h.elim
  | _ :: _, [], h => h.elim
def spWordsOf : Sp := fun vs H Q _ => ∃ y : Str, vs = [.str y] ∧ y.length ≤ 5000 ∧ ∀ (D : Addr) (la : List Addr) (H' : Hp), Same H H' → H D = none → la.length ≤ y.length → H' D = some (.lst (la.map V.ref)) → PW H' la (Xp.wsP 0 [] (TL.tl y)) → Q (.ref D) H'
section
variable {P : Program} {w : World} {K : PySem.W.Frag} {mg : Str → Option Value} {base : Heap}
theorem sc_words_of : FnScope (["text", "told", "at", "end"] : List Str) ["text"] (defScope s_words_of) := ⟨rfl, rfl, rfl, by decide +kernel, rfl, by decide +kernel, by decide +kernel⟩
theorem ok_words_of {f : Addr} {fd : FuncData} (F : FunD K "words_of" "words_of" (defArgs s_words_of) (defBody s_words_of) (defScope s_words_of) [] [] f fd) (T : Fre mg) (o_is_wordly : Own P w K mg base CX0 1 "is_wordly" ["sign"] [] spWordly) : FnOk P w K mg base CX0 2 f fd ["text"] spWordsOf := by
  refine F.ok sc_words_of (fun vs H Q E h => ?_) (fun cdv A outer s H vs Q E hr h => ?_)
  · obtain ⟨y, rfl, _⟩ := h
    rfl
  · obtain ⟨y, rfl, ly, k⟩ := h
    refine ⟨_, PSs.nox (pss_cons (ps_set (i := 1) sc_words_of.nd rfl (Or.inl rfl) (pe_lst pa_nil))
      (pss_cons (ps_set (i := 2) sc_words_of.nd rfl (Or.inl rfl) pe_int)
      (pss_cons (ps_while PassesOwn.never (pt_cmpR op_lt (pv 2) (pe_callB call_len_str (by rfl) T.f_len PySem.boot_len (pa_cons (pv 0) pa_nil)) (nomark _)) (pss_cons (ps_set (i := 3) sc_words_of.nd rfl (Or.inl rfl) (pe_op op_add (pv 2) pe_int))
      (C8.pss_cut (ps_if (pt_val (pe_own o_is_wordly (hr.mono (by decide)) rfl pass0 (pa_cons (pe_ix ix_str (pv 0) (pv 2) (fun _ _ => rfl)) pa_nil))) (pss_one (ps_while PassesOwn.never (PW.pt (pw_and (pt_cmpR op_lt (pv 3) (pe_callB call_len_str (by rfl) T.f_len PySem.boot_len (pa_cons (pv 0) pa_nil)) (nomark _)) (pw_and1 (pt_val (pe_own o_is_wordly (hr.mono (by decide)) rfl pass0 (pa_cons (pe_ix ix_str (pv 0) (pv 3) (fun _ _ => rfl)) pa_nil)))))) (pss_one (ps_aug (i := 3) sc_words_of.nd rfl (Or.inl rfl) pe_int ip_add)))) pss_nil)
      (pss_cons (ps_if (pt_cmpR op_ne (pe_ix ix_str (pv 0) (pv 2) (fun _ _ => rfl)) pe_str (nomark _)) (pss_one (ps_expr (pe_bm PySem.F.plainAttrs_list PySem.F.slot_list_append PySem.F.type_list_append mt_append (pv 1) (pa_cons (pe_tup (pa_cons (pv 2) (pa_cons (pe_slice sl_str (pv 0) (po_some (pv 2)) (po_some (pv 3))) pa_nil))) pa_nil)))) pss_nil)
      (pss_one (ps_set (i := 2) sc_words_of.nd rfl (Or.inl rfl) (pv 3)))))))
      (pss_one (ps_ret (pv 1)))))) , ?_⟩
    have lt : y.length = (TL.tl y).length := TL.len_tl y
    refine ⟨(by show 0 ≤ sizeLine; decide), fun L hL => ?_⟩
    refine while_by (fun σ' H' => ∃ (n : Nat) (la : List Addr) (ws : List (Nat × List Nat)) (x3 : Option V), σ' = [some (.str y), some (.ref L), some (.int (n : Int)), x3] ∧ n ≤ y.length ∧ Same H H' ∧ H' L = some (.lst (la.map V.ref)) ∧ PW H' la ws ∧ ws.length ≤ n ∧ Xp.wsP 0 [] (TL.tl y) = ws ++ Xp.wsP n [] ((TL.tl y).drop n)) (fun σ' _ => y.length - slotN 2 σ') ⟨0, [], [], none, rfl, Nat.zero_le _, same_upd hL, upd_same, trivial, Nat.le_refl _, rfl⟩ ?_ (fun σ H Q Q' m ⟨x, e1, y, e2, z, e3, l, a, b, e4, e5, b2, e6, q⟩ => ⟨x, e1, y, e2, z, e3, l, a, b, e4, e5, b2, e6, m _ _ q⟩)
    rintro σ' H' ⟨n, la, ws, x3, rfl, hn, s1, eL, pw, lw, ew⟩
    refine ⟨_, rfl, _, rfl, y, rfl, line8 (by omega), _, _, rfl, rfl, _, rfl, ite2 (fun hc => ?_) (fun hc => ?_)⟩
    · have hlt : n < (TL.tl y).length := by
        have z := of_decide_eq_true hc
        omega
      obtain ⟨c, e0⟩ : ∃ c, (TL.tl y)[n]? = some c := ⟨_, List.getElem?_eq_getElem hlt⟩
      have ed : (TL.tl y).drop n = c :: (TL.tl y).drop (n + 1) := drop_at e0
      have fin : ∀ (e : Nat) (v : Str) (σ : L2.St) (H2 : Hp) (la2 : List Addr), True := fun _ _ _ _ _ => trivial
      refine ⟨_, rfl, _, _, rfl, rfl, ?_⟩
      refine ⟨fun σ2 H2 => ∃ e : Nat, σ2 = [some (.str y), some (.ref L), some (.int (n : Int)), some (.int (e : Int))] ∧ H2 = H' ∧ n < e ∧ e ≤ y.length ∧ Xp.wsP n [] ((TL.tl y).drop n) = (if c = 32 then [] else [(n, ((TL.tl y).drop n).take (e - n))]) ++ Xp.wsP e [] ((TL.tl y).drop e), ?_, ?_⟩
      · refine ⟨_, rfl, _, rfl, y, n, c, rfl, rfl, line8 (by omega), atI_nat (xs := TL.tl y) e0, c, rfl, _, rfl, ?_⟩
        cases hw : Xp.wordly c with
        | false =>
          refine iteF ?_
          refine ⟨n + 1, rfl, rfl, by omega, by omega, ?_⟩
          rw [ed, Xp.wsP_other hw, show n + 1 - n = 1 by omega]
          rfl
        | true =>
          refine iteT ?_
          refine while_by (fun σ2 H2 => ∃ e : Nat, σ2 = [some (.str y), some (.ref L), some (.int (n : Int)), some (.int (e : Int))] ∧ H2 = H' ∧ n < e ∧ e ≤ y.length ∧ ∀ d ∈ ((TL.tl y).drop n).take (e - n), Xp.wordly d = true) (fun σ2 _ => y.length - slotN 3 σ2) ⟨n + 1, rfl, rfl, by omega, by omega, ?_⟩ ?_ ?_
          · rw [ed, show n + 1 - n = 1 by omega]
            intro d hd
            rw [List.take_succ_cons, List.take_zero, List.mem_singleton] at hd
            rw [hd]
            exact hw
          · rintro σ2 H2 ⟨e, rfl, rfl, h1, h2, aw⟩
            have out : Xp.Hd ((TL.tl y).drop e) → Xp.wsP n [] ((TL.tl y).drop n) = (if c = 32 then [] else [(n, ((TL.tl y).drop n).take (e - n))]) ++ Xp.wsP e [] ((TL.tl y).drop e) := fun hh => by
              have c32 : c ≠ 32 := fun z => by rw [z] at hw; cases hw
              have l1 : (((TL.tl y).drop n).take (e - n)).length = e - n := by rw [List.length_take, List.length_drop]; omega
              have e1 : (TL.tl y).drop n = ((TL.tl y).drop n).take (e - n) ++ (TL.tl y).drop e := by
                have z := (List.take_append_drop (e - n) ((TL.tl y).drop n)).symm
                rw [List.drop_drop, show n + (e - n) = e by omega] at z
                exact z
              have z := Xp.wsP_run (((TL.tl y).drop n).take (e - n)) ((TL.tl y).drop e) n [] aw hh (fun z => by rw [List.nil_append] at z; rw [z] at l1; simp at l1; omega)
              rw [← e1, List.nil_append, l1, show n + (e - n) - (e - n) = n by omega, show n + (e - n) = e by omega] at z
              rw [z, if_neg c32]
              rfl
            refine ⟨_, rfl, _, rfl, y, rfl, line8 (by omega), _, _, rfl, rfl, _, rfl, ?_⟩
            by_cases he : e < y.length
            · rw [decide_eq_true (show (e : Int) < (y.length : Int) by omega)]
              obtain ⟨c2, e2⟩ : ∃ c, (TL.tl y)[e]? = some c := ⟨_, List.getElem?_eq_getElem (by omega)⟩
              refine iteT ⟨_, rfl, _, rfl, y, e, c2, rfl, rfl, line8 (by omega), atI_nat (xs := TL.tl y) e2, c2, rfl, _, rfl, ?_⟩
              cases hw2 : Xp.wordly c2 with
              | true =>
                refine iteT ?_
                refine ⟨_, rfl, _, _, rfl, rfl, ⟨e + 1, rfl, rfl, by omega, by omega, ?_⟩, ?_⟩
                · intro d hd
                  have e3 : ((TL.tl y).drop n)[e - n]? = some c2 := by rw [List.getElem?_drop, show n + (e - n) = e by omega]; exact e2
                  rw [show e + 1 - n = (e - n) + 1 by omega, List.take_add_one, e3] at hd
                  rcases List.mem_append.mp hd with hd | hd
                  · exact aw d hd
                  · have : d = c2 := by simpa using hd
                    rw [this]
                    exact hw2
                · show y.length - ((e : Int) + 1).toNat < y.length - (e : Int).toNat
                  omega
              | false =>
                refine iteF ?_
                refine ⟨e, rfl, rfl, h1, h2, out fun d hd => ?_⟩
                rw [drop_at e2] at hd
                cases hd
                exact hw2
            · rw [decide_eq_false (show ¬ (e : Int) < (y.length : Int) by omega)]
              refine iteF ?_
              refine iteF ?_
              refine ⟨e, rfl, rfl, h1, h2, out fun d hd => ?_⟩
              rw [List.drop_eq_nil_of_le (by omega)] at hd
              cases hd
          · rintro σ H Q Q' m ⟨v, h1, u, h2, z, h3, h4, i, j, h5, h6, b, h7, q⟩
            refine ⟨v, h1, u, h2, z, h3, h4, i, j, h5, h6, b, h7, ?_⟩
            cases b with
            | false => exact iteF (m _ _ ((if_neg Bool.false_ne_true).mp q))
            | true =>
              rw [if_pos rfl] at q
              obtain ⟨v, h1, u, h2, z, i, c, h3, h4, h5, h6, d, h7, b2, h8, q⟩ := q
              exact iteT ⟨v, h1, u, h2, z, i, c, h3, h4, h5, h6, d, h7, b2, h8, m _ _ q⟩
      · rintro σ2 H2 ⟨e, rfl, rfl, h1, h2, ee⟩
        have go : ∀ (H3 : Hp) (la2 : List Addr) (ws2 : List (Nat × List Nat)), Same H H3 → H3 L = some (.lst (la2.map V.ref)) → PW H3 la2 ws2 → ws2.length ≤ ws.length + 1 → Xp.wsP 0 [] (TL.tl y) = ws2 ++ Xp.wsP e [] ((TL.tl y).drop e) →
            (∃ (n : Nat) (la : List Addr) (ws : List (Nat × List Nat)) (x3 : Option V), [some (V.str y), some (.ref L), some (.int (e : Int)), some (.int (e : Int))] = [some (.str y), some (.ref L), some (.int (n : Int)), x3] ∧ n ≤ y.length ∧ Same H H3 ∧ H3 L = some (.lst (la.map V.ref)) ∧ PW H3 la ws ∧ ws.length ≤ n ∧ Xp.wsP 0 [] (TL.tl y) = ws ++ Xp.wsP n [] ((TL.tl y).drop n)) ∧ y.length - e < y.length - n :=
          fun H3 la2 ws2 a1 a2 a3 a4 a5 => ⟨⟨e, la2, ws2, _, rfl, h2, a1, a2, a3, by omega, a5⟩, by omega⟩
        refine ⟨_, rfl, _, rfl, y, n, c, rfl, rfl, line8 (by omega), atI_nat (xs := TL.tl y) e0, rfl, ?_⟩
        rw [show (Str.ofString " ") = (⟨#[32]⟩ : Str) from rfl, str_one]
        by_cases h32 : c = 32
        · rw [decide_eq_true (show TL.tl (⟨#[c]⟩ : Str) = [32] by rw [h32])]
          refine ⟨_, rfl, iteF ?_⟩
          refine ⟨_, rfl, go _ la ws s1 eL pw (by omega) ?_⟩
          rw [ew, ee, if_pos h32]
          rfl
        · rw [decide_eq_false (show ¬ TL.tl (⟨#[c]⟩ : Str) = [32] from fun z => h32 (List.cons.inj z).1)]
          refine ⟨_, rfl, iteT ?_⟩
          refine ⟨_, rfl, .inl ⟨rfl, _, SqL.of eL⟩, _, rfl, _, rfl, _, rfl, n, rfl, _, rfl, e, rfl, y, rfl, line8 (by omega), (by show 2 ≤ sizeLine; decide), fun A hA => ?_⟩
          have lA : L ≠ A := ne_of_none eL hA
          have kt : ∀ a xs, H2 a = some (.tup xs) → L2.upd (L2.upd H2 A (.tup [.int (n : Int), .str (L2.cutS y (some (n : Int)) (some (e : Int)))])) L (.lst (la.map V.ref ++ [.ref A])) a = some (.tup xs) := fun a xs ea => by
            rw [upd_ne (fun z => by rw [z, eL] at ea; cases ea), upd_ne (ne_of_none ea hA)]
            exact ea
          refine ⟨L, _, _, rfl, rfl, by rw [upd_ne lA]; exact eL, by rw [List.length_map, pw.len]; exact line4 (by omega), ?_⟩
          refine ⟨_, rfl, go _ (la ++ [A]) (ws ++ [(n, ((TL.tl y).drop n).take (e - n))]) (fun a o ea => ?_) ?_ ?_ (by rw [List.length_append]; exact Nat.le_refl _) ?_⟩
          · have hna : a ≠ L := fun z => by rw [z, hL] at ea; cases ea
            have := s1 _ _ ea
            rw [upd_ne hna, upd_ne (ne_of_none this hA)]
            exact this
          · rw [upd_same, List.map_append]
            rfl
          · exact PW.snoc (s := L2.cutS y (some (n : Int)) (some (e : Int))) (by rw [upd_ne lA.symm, upd_same]) (tl_cutS y n e (Nat.le_of_lt h1) h2) (PW.keep kt pw)
          · rw [ew, ee, if_neg h32, List.append_assoc]
    · have hd : n = y.length := by
        have z := of_decide_eq_false (Bool.not_eq_true _ ▸ hc)
        omega
      rw [hd, lt, List.drop_length] at ew
      have ew : Xp.wsP 0 [] (TL.tl y) = ws := by rw [ew]; simp [Xp.wsP, Xp.flushP]
      have lp := pw.len
      rw [← ew] at pw
      exact ⟨_, rfl, k L la H' s1 hL (by rw [lp]; omega) eL pw⟩
end
end Xk
end
section
set_option Elab.async false
set_option linter.all false
/-! formulas as trees, read word by word with two heaps (trees, signs that wait) -/
namespace Xp
inductive Op | plus | minus | times | over
  deriving DecidableEq
def Op.strong : Op → Bool
  | .times => true
  | .over => true
  | _ => false
inductive Tr
  | name (w : List Nat)
  | num (n : Nat)
  | turned (t : Tr)
  | power (t : Tr) (e : Int)
  | bin (k : Op) (a b : Tr)
/-- what waits: an open bracket or a sign -/
inductive Wt | br | op (k : Op)
/-- the words, less blanks -/
inductive Tk | lp | rp | op (k : Op) | hat | tick | name (w : List Nat) | fig (n : Nat)
/-- what is awaited -/
inductive Aw | part | sign | ex | less
structure St where
  ts : List Tr
  ws : List Wt
  ps : Nat
  aw : Aw
def ahead : Wt → Bool → Bool
  | .br, _ => false
  | .op k, st => k.strong || !st
/-- the waiting signs that go ahead of one that is strong or not -/
def fold (st : Bool) : List Tr → List Wt → List Tr × List Wt
  | ts, [] => (ts, [])
  | ts, w :: ws => if ahead w st then (match w, ts with
      | .op k, b :: a :: ts => fold st (.bin k a b :: ts) ws
      | _, ts => (ts, w :: ws)) else (ts, w :: ws)
def most : Nat := 40
/-- one word more; none: it doesn't fit here -/
def take (s : St) : Tk → Option St := fun x => match s.aw with
  | .part => match x with
    | .lp => some { s with ws := .br :: s.ws }
    | .name w => some ⟨.name w :: s.ts, s.ws, s.ps + 1, .sign⟩
    | .fig n => some ⟨.num n :: s.ts, s.ws, s.ps + 1, .sign⟩
    | _ => none
  | .sign => match x with
    | .rp => match fold false s.ts s.ws with
      | (ts, _ :: ws) => some ⟨ts, ws, s.ps, .sign⟩
      | (_, []) => none
    | .op k => if s.ps + 2 > most then none else match fold k.strong s.ts s.ws with
      | (ts, ws) => some ⟨ts, .op k :: ws, s.ps + 1, .part⟩
    | .hat => if s.ps = most then none else some { s with ps := s.ps + 1, aw := .ex }
    | .tick => if s.ps = most then none else match s.ts with
      | t :: ts => some ⟨.turned t :: ts, s.ws, s.ps + 1, .sign⟩
      | [] => none
    | _ => none
  | .ex => match x with
    | .op .minus => some { s with aw := .less }
    | .fig n => match s.ts with
      | t :: ts => some ⟨.power t n :: ts, s.ws, s.ps, .sign⟩
      | [] => none
    | _ => none
  | .less => match x with
    | .fig n => match s.ts with
      | t :: ts => some ⟨.power t (-(n : Int)) :: ts, s.ws, s.ps, .sign⟩
      | [] => none
    | _ => none
def run : List Tk → St → Option St
  | [], s => some s
  | x :: xs, s => (take s x).bind (run xs)
theorem run_app : ∀ (xs ys : List Tk) (s : St), run (xs ++ ys) s = (run xs s).bind (run ys)
  | [], ys, s => rfl
  | x :: xs, ys, s => by
    show (take s x).bind (run (xs ++ ys)) = ((take s x).bind (run xs)).bind (run ys)
    cases take s x with
    | none => rfl
    | some s' => exact run_app xs ys s'
/-- the words of a tree at a level (0 a sum, 1 a product, 2 a part), with what it adds to the parts -/
inductive Ex : Nat → Tr → List Tk → Nat → Prop
  | name (w) : Ex 2 (.name w) [.name w] 1
  | num (n) : Ex 2 (.num n) [.fig n] 1
  | turned {t xs c} (h : Ex 2 t xs c) : Ex 2 (.turned t) (xs ++ [.tick]) (c + 1)
  | pow {t xs c} (n : Nat) (h : Ex 2 t xs c) : Ex 2 (.power t n) (xs ++ [.hat, .fig n]) (c + 1)
  | less {t xs c} (n : Nat) (h : Ex 2 t xs c) : Ex 2 (.power t (-(n : Int))) (xs ++ [.hat, .op .minus, .fig n]) (c + 1)
  | shut {t xs c} (h : Ex 0 t xs c) : Ex 2 t (.lp :: (xs ++ [.rp])) c
  | up1 {t xs c} (h : Ex 2 t xs c) : Ex 1 t xs c
  | up0 {t xs c} (h : Ex 1 t xs c) : Ex 0 t xs c
  | strong {k a b xs ys c d} (hk : k.strong = true) (h : Ex 1 a xs c) (g : Ex 2 b ys d) : Ex 1 (.bin k a b) (xs ++ .op k :: ys) (c + 1 + d)
  | weak {k a b xs ys c d} (hk : k.strong = false) (h : Ex 0 a xs c) (g : Ex 1 b ys d) : Ex 0 (.bin k a b) (xs ++ .op k :: ys) (c + 1 + d)
/-- nothing strong waits on top; nothing but a bracket -/
def NoS : List Wt → Prop
  | .op k :: _ => k.strong = false
  | _ => True
def NoW : List Wt → Prop
  | .op _ :: _ => False
  | _ => True
theorem NoW.s {ws : List Wt} (h : NoW ws) : NoS ws := by
  match ws, h with
  | [], _ => exact trivial
  | .br :: _, _ => exact trivial
theorem fold_s {ts : List Tr} {ws : List Wt} (h : NoS ws) : fold true ts ws = (ts, ws) := by
  match ws, h with
  | [], _ => simp [fold]
  | .br :: _, _ => simp [fold, ahead]
  | .op k :: _, h =>
    have h : k.strong = false := h
    simp [fold, ahead, h]
theorem fold_w {ts : List Tr} {ws : List Wt} (h : NoW ws) : fold false ts ws = (ts, ws) := by
  match ws, h with
  | [], _ => simp [fold]
  | .br :: _, _ => simp [fold, ahead]
theorem fold_op {st : Bool} {k : Op} {a b : Tr} {ts : List Tr} {ws : List Wt} (h : k.strong || !st) : fold st (b :: a :: ts) (.op k :: ws) = fold st (.bin k a b :: ts) ws := by
  rw [fold, if_pos (by simpa [ahead] using h)]
/-- first the strong ones, then all -/
theorem fold_two : ∀ (ws : List Wt) (ts : List Tr), fold false (fold true ts ws).1 (fold true ts ws).2 = fold false ts ws
  | [], ts => by simp [fold]
  | .br :: ws, ts => by simp [fold, ahead]
  | .op k :: ws, ts => by
    cases hk : k.strong with
    | false => rw [fold_s (show NoS (.op k :: ws) from hk)]
    | true =>
      match ts with
      | b :: a :: ts =>
        rw [fold_op (by simp [hk]), fold_op (st := false) (by simp)]
        exact fold_two ws _
      | [] => simp [fold, ahead, hk]
      | [a] => simp [fold, ahead, hk]
/-- what has been read of a level -/
def Done (l : Nat) (t : Tr) (ts : List Tr) (ws : List Wt) (s : St) : Prop := match l with
  | 0 => fold false s.ts s.ws = (t :: ts, ws)
  | 1 => fold true s.ts s.ws = (t :: ts, ws)
  | _ => s.ts = t :: ts ∧ s.ws = ws
def Free (l : Nat) (ws : List Wt) : Prop := match l with
  | 0 => NoW ws
  | 1 => NoS ws
  | _ => True
theorem pos {l : Nat} {t : Tr} {xs : List Tk} {c : Nat} (h : Ex l t xs c) : 1 ≤ c := by
  induction h with
  | name | num => exact Nat.le_refl _
  | turned | pow | less => omega
  | shut _ ih | up1 _ ih | up0 _ ih => exact ih
  | strong | weak => omega
theorem reads {l : Nat} {t : Tr} {xs : List Tk} {c : Nat} (h : Ex l t xs c) : ∀ (ts : List Tr) (ws : List Wt) (p : Nat), p + c ≤ most → Free l ws → ∃ s, run xs ⟨ts, ws, p, .part⟩ = some s ∧ s.aw = .sign ∧ s.ps = p + c ∧ Done l t ts ws s := by
  induction h with
  | name w => exact fun ts ws p _ _ => ⟨_, rfl, rfl, rfl, rfl, rfl⟩
  | num n => exact fun ts ws p _ _ => ⟨_, rfl, rfl, rfl, rfl, rfl⟩
  | @turned t xs c h ih =>
    intro ts ws p hp hf
    obtain ⟨⟨ts', ws', ps', aw'⟩, e, ea, ep, e1, e2⟩ := ih ts ws p (by omega) trivial
    have e1 : ts' = t :: ts := e1
    have e2 : ws' = ws := e2
    have ea : aw' = .sign := ea
    have ep : ps' = p + c := ep
    subst e1 e2 ea ep
    refine ⟨⟨.turned t :: ts, ws', p + c + 1, .sign⟩, ?_, rfl, rfl, rfl, rfl⟩
    rw [run_app, e]
    show (take _ .tick).bind (run []) = _
    unfold take
    rw [show (if p + c = most then none else some (St.mk (.turned t :: ts) ws' (p + c + 1) .sign)) = some (St.mk (.turned t :: ts) ws' (p + c + 1) .sign) from if_neg (by omega)]
    rfl
  | @pow t xs c n h ih =>
    intro ts ws p hp hf
    obtain ⟨⟨ts', ws', ps', aw'⟩, e, ea, ep, e1, e2⟩ := ih ts ws p (by omega) trivial
    have e1 : ts' = t :: ts := e1
    have e2 : ws' = ws := e2
    have ea : aw' = .sign := ea
    have ep : ps' = p + c := ep
    subst e1 e2 ea ep
    refine ⟨⟨.power t n :: ts, ws', p + c + 1, .sign⟩, ?_, rfl, rfl, rfl, rfl⟩
    rw [run_app, e]
    have h1 : take ⟨t :: ts, ws', p + c, .sign⟩ .hat = some ⟨t :: ts, ws', p + c + 1, .ex⟩ := by
      show (if p + c = most then none else some (St.mk (t :: ts) ws' (p + c + 1) .ex)) = _
      exact if_neg (by omega)
    show (take ⟨t :: ts, ws', p + c, .sign⟩ .hat).bind (run [.fig n]) = _
    rw [h1]
    rfl
  | @less t xs c n h ih =>
    intro ts ws p hp hf
    obtain ⟨⟨ts', ws', ps', aw'⟩, e, ea, ep, e1, e2⟩ := ih ts ws p (by omega) trivial
    have e1 : ts' = t :: ts := e1
    have e2 : ws' = ws := e2
    have ea : aw' = .sign := ea
    have ep : ps' = p + c := ep
    subst e1 e2 ea ep
    refine ⟨⟨.power t (-(n : Int)) :: ts, ws', p + c + 1, .sign⟩, ?_, rfl, rfl, rfl, rfl⟩
    rw [run_app, e]
    have h1 : take ⟨t :: ts, ws', p + c, .sign⟩ .hat = some ⟨t :: ts, ws', p + c + 1, .ex⟩ := by
      show (if p + c = most then none else some (St.mk (t :: ts) ws' (p + c + 1) .ex)) = _
      exact if_neg (by omega)
    show (take ⟨t :: ts, ws', p + c, .sign⟩ .hat).bind (run [.op .minus, .fig n]) = _
    rw [h1]
    rfl
  | @shut t xs c h ih =>
    intro ts ws p hp hf
    obtain ⟨⟨ts', ws', ps', aw'⟩, e, ea, ep, e1⟩ := ih ts (.br :: ws) p hp trivial
    have e1 : fold false ts' ws' = (t :: ts, .br :: ws) := e1
    have ea : aw' = .sign := ea
    have ep : ps' = p + c := ep
    subst ea ep
    refine ⟨⟨t :: ts, ws, p + c, .sign⟩, ?_, rfl, rfl, rfl, rfl⟩
    show run (xs ++ [.rp]) ⟨ts, .br :: ws, p, .part⟩ = _
    rw [run_app, e]
    show (take ⟨ts', ws', p + c, .sign⟩ .rp).bind (run []) = _
    have h1 : take ⟨ts', ws', p + c, .sign⟩ .rp = some ⟨t :: ts, ws, p + c, .sign⟩ := by
      show (match fold false ts' ws' with
        | (ts, _ :: ws) => some (St.mk ts ws (p + c) .sign)
        | (_, []) => none) = _
      rw [e1]
    rw [h1]
    rfl
  | @up1 t xs c h ih =>
    intro ts ws p hp hf
    obtain ⟨s, e, ea, ep, e1, e2⟩ := ih ts ws p hp trivial
    refine ⟨s, e, ea, ep, ?_⟩
    show fold true s.ts s.ws = _
    rw [e1, e2]
    exact fold_s hf
  | @up0 t xs c h ih =>
    intro ts ws p hp hf
    obtain ⟨s, e, ea, ep, e1⟩ := ih ts ws p hp (NoW.s hf)
    refine ⟨s, e, ea, ep, ?_⟩
    have e1 : fold true s.ts s.ws = (t :: ts, ws) := e1
    show fold false s.ts s.ws = _
    rw [← fold_two, e1]
    exact fold_w hf
  | @strong k a b xs ys c d hk h g ih ig =>
    intro ts ws p hp hf
    obtain ⟨⟨ts', ws', ps', aw'⟩, e, ea, ep, e1⟩ := ih ts ws p (by omega) hf
    have e1 : fold true ts' ws' = (a :: ts, ws) := e1
    have ea : aw' = .sign := ea
    have ep : ps' = p + c := ep
    subst ea ep
    obtain ⟨s2, e2, ea2, ep2, d2⟩ := ig (a :: ts) (.op k :: ws) (p + c + 1) (by omega) trivial
    have h1 : take ⟨ts', ws', p + c, .sign⟩ (.op k) = some ⟨a :: ts, .op k :: ws, p + c + 1, .part⟩ := by
      show (if p + c + 2 > most then none else match fold k.strong ts' ws' with
        | (ts, ws) => some (St.mk ts (.op k :: ws) (p + c + 1) .part)) = _
      rw [if_neg (by have := pos g; omega), hk, e1]
    refine ⟨s2, ?_, ea2, by omega, ?_⟩
    · rw [run_app, e]
      show (take ⟨ts', ws', p + c, .sign⟩ (.op k)).bind (run ys) = _
      rw [h1]
      exact e2
    · obtain ⟨d1, d2⟩ := d2
      show fold true s2.ts s2.ws = _
      rw [d1, d2, fold_op (by simp [hk])]
      exact fold_s hf
  | @weak k a b xs ys c d hk h g ih ig =>
    intro ts ws p hp hf
    obtain ⟨⟨ts', ws', ps', aw'⟩, e, ea, ep, e1⟩ := ih ts ws p (by omega) hf
    have e1 : fold false ts' ws' = (a :: ts, ws) := e1
    have ea : aw' = .sign := ea
    have ep : ps' = p + c := ep
    subst ea ep
    obtain ⟨s2, e2, ea2, ep2, d2⟩ := ig (a :: ts) (.op k :: ws) (p + c + 1) (by omega) hk
    have h1 : take ⟨ts', ws', p + c, .sign⟩ (.op k) = some ⟨a :: ts, .op k :: ws, p + c + 1, .part⟩ := by
      show (if p + c + 2 > most then none else match fold k.strong ts' ws' with
        | (ts, ws) => some (St.mk ts (.op k :: ws) (p + c + 1) .part)) = _
      rw [if_neg (by have := pos g; omega), hk, e1]
    refine ⟨s2, ?_, ea2, by omega, ?_⟩
    · rw [run_app, e]
      show (take ⟨ts', ws', p + c, .sign⟩ (.op k)).bind (run ys) = _
      rw [h1]
      exact e2
    · have d2 : fold true s2.ts s2.ws = (b :: a :: ts, .op k :: ws) := d2
      show fold false s2.ts s2.ws = _
      rw [← fold_two, d2, fold_op (by simp)]
      exact fold_w hf
/-- a whole text: read, and ended -/
theorem read_all {t : Tr} {xs : List Tk} {c : Nat} (h : Ex 0 t xs c) (hc : c ≤ most) : ∃ s, run xs ⟨[], [], 0, .part⟩ = some s ∧ s.aw = .sign ∧ fold false s.ts s.ws = ([t], []) := by
  obtain ⟨s, e, ea, _, d⟩ := reads h [] [] 0 (by omega) trivial
  exact ⟨s, e, ea, d⟩
end Xp
end
section
set_option Elab.async false
set_option linter.all false
set_option maxRecDepth 100000
set_option maxHeartbeats 4000000
namespace Xk
open PySem PySem.Spec PyProof.Rows L2 Xh LamX NdefX
/-! ### the reader: what it holds -/
open Xp (Tr Op Wt Tk Aw)
def opS : Op → Str
  | .plus => "plus"
  | .minus => "minus"
  | .times => "times"
  | .over => "over"
def opL : Op → List Nat
  | .plus => [43]
  | .minus => [45]
  | .times => [42]
  | .over => [47]
def awS : Aw → Str
  | .part => "part"
  | .sign => "sign"
  | .ex => "exponent"
  | .less => "less"
def wtV : Wt → V
  | .br => .str "("
  | .op k => .str (opS k)
def signTk : List Nat → Option Tk
  | [40] => some .lp
  | [41] => some .rp
  | [43] => some (.op .plus)
  | [45] => some (.op .minus)
  | [42] => some (.op .times)
  | [47] => some (.op .over)
  | [94] => some .hat
  | [39] => some .tick
  | _ => none
/-- what a word is -/
def tkOf (w : List Nat) : Option Tk := if nameB w = true then some (.name w) else if figB 6 w = true then some (.fig (NumText.digitsVal w)) else signTk w
def tkS (s : Xp.St) (w : List Nat) : Option Xp.St := (tkOf w).bind (Xp.take s)
def TreeAt (H : Hp) : Addr → Tr → Prop
  | a, .name w => ∃ s : Str, H a = some (.tup [.str "name", .str s]) ∧ TL.tl s = w
  | a, .num n => H a = some (.tup [.str "number", .int (n : Int)])
  | a, .turned t => ∃ b, H a = some (.tup [.str "turned", .ref b]) ∧ TreeAt H b t
  | a, .power t e => ∃ b, H a = some (.tup [.str "power", .ref b, .int e]) ∧ TreeAt H b t
  | a, .bin k x y => ∃ b c, H a = some (.tup [.str (opS k), .ref b, .ref c]) ∧ TreeAt H b x ∧ TreeAt H c y
/-- tuples stay -/
def TupK (H H' : Hp) : Prop := ∀ a xs, H a = some (.tup xs) → H' a = some (.tup xs)
theorem TreeAt.keep {H H' : Hp} (k : TupK H H') : ∀ {t : Tr} {a : Addr}, TreeAt H a t → TreeAt H' a t
  | .name _, _, ⟨s, h1, h2⟩ => ⟨s, k _ _ h1, h2⟩
  | .num _, _, h => k _ _ h
  | .turned _, _, ⟨b, h1, h2⟩ => ⟨b, k _ _ h1, TreeAt.keep k h2⟩
  | .power _ _, _, ⟨b, h1, h2⟩ => ⟨b, k _ _ h1, TreeAt.keep k h2⟩
  | .bin _ _ _, _, ⟨b, c, h1, h2, h3⟩ => ⟨b, c, k _ _ h1, TreeAt.keep k h2, TreeAt.keep k h3⟩
def Trs (H : Hp) : List Addr → List Tr → Prop
  | [], [] => True
  | a :: la, t :: ts => TreeAt H a t ∧ Trs H la ts
  | _, _ => False
theorem Trs.keep {H H' : Hp} (k : TupK H H') : ∀ {la : List Addr} {ts : List Tr}, Trs H la ts → Trs H' la ts
  | [], [], _ => trivial
  | _ :: _, _ :: _, h => ⟨h.1.keep k, Trs.keep k h.2⟩
  | [], _ :: _, h => h.elim
  | _ :: _, [], h => h.elim
theorem Trs.len {H : Hp} : ∀ {la : List Addr} {ts : List Tr}, Trs H la ts → la.length = ts.length
  | [], [], _ => rfl
  | _ :: _, _ :: _, h => by rw [List.length_cons, List.length_cons, Trs.len h.2]
  | [], _ :: _, h => h.elim
  | _ :: _, [], h => h.elim
theorem Trs.one {H : Hp} {la : List Addr} {t : Tr} {ts : List Tr} (h : Trs H la (t :: ts)) : ∃ a r, la = a :: r ∧ TreeAt H a t ∧ Trs H r ts := by
  cases la with
  | nil => exact h.elim
  | cons a r => exact ⟨a, r, rfl, h.1, h.2⟩
theorem same_tk {H H' : Hp} (s : Same H H') : TupK H H' := fun _ _ e => s _ _ e
theorem TupK.trans {H H1 H2 : Hp} (a : TupK H H1) (b : TupK H1 H2) : TupK H H2 := fun _ _ e => b _ _ (a _ _ e)
theorem TupK.updL {H : Hp} {p : Addr} {xs : List V} {o : HO} (e : H p = some (.lst xs)) : TupK H (L2.upd H p o) := fun a ys ea => by
  rw [upd_ne (fun z => by rw [z, e] at ea; cases ea)]
  exact ea
theorem TupK.updI {H : Hp} {p C dx : Addr} {fs : List (Str × V)} {o : HO} (e : H p = some (.ins C dx fs)) : TupK H (L2.upd H p o) := fun a ys ea => by
  rw [upd_ne (fun z => by rw [z, e] at ea; cases ea)]
  exact ea
theorem TupK.updN {H : Hp} {p : Addr} {o : HO} (e : H p = none) : TupK H (L2.upd H p o) := same_tk (same_upd e)
def rdFs (T W : Addr) (n : Nat) (aw : Str) : List (Str × V) := [("_trees", .ref T), ("_waiting", .ref W), ("_parts", .int (n : Int)), ("_awaited", .str aw)]
/-- a reader at R, its trees at T, what waits at W -/
structure RdA (CR : Addr) (H : Hp) (R T W dx : Addr) (lt : List Addr) (ts : List Tr) (ws : List Wt) (n : Nat) (aw : Aw) : Prop where
  r : H R = some (.ins CR dx (rdFs T W n (awS aw)))
  t : H T = some (.lst (lt.reverse.map V.ref))
  w : H W = some (.lst (ws.reverse.map wtV))
  x : Trs H lt ts
  ne : T ≠ W
def RdAt (CR : Addr) (H : Hp) (R T W : Addr) (s : Xp.St) : Prop := ∃ dx lt, RdA CR H R T W dx lt s.ts s.ws s.ps s.aw
/-- all but the reader's own stays -/
def RB (R T W : Addr) (H H' : Hp) : Prop := ∀ b o, b ≠ R → b ≠ T → b ≠ W → H b = some o → H' b = some o
section
variable {CR R T W dx : Addr} {lt : List Addr} {ts : List Tr} {ws : List Wt} {n : Nat} {aw : Aw} {H H1 H2 : Hp}
theorem RB.refl : RB R T W H H := fun _ _ _ _ _ e => e
theorem RB.trans (a : RB R T W H H1) (b : RB R T W H1 H2) : RB R T W H H2 := fun c o h1 h2 h3 e => b c o h1 h2 h3 (a c o h1 h2 h3 e)
theorem RB.same (s : Same H H1) : RB R T W H H1 := fun c o _ _ _ e => s c o e
theorem RB.updR {o : HO} : RB R T W H (L2.upd H R o) := fun c _ h _ _ e => by rw [upd_ne h]; exact e
theorem RB.updT {o : HO} : RB R T W H (L2.upd H T o) := fun c _ _ h _ e => by rw [upd_ne h]; exact e
theorem RB.updW {o : HO} : RB R T W H (L2.upd H W o) := fun c _ _ _ h e => by rw [upd_ne h]; exact e
theorem RdA.tup (h : RdA CR H R T W dx lt ts ws n aw) (b : RB R T W H H1) : TupK H H1 := fun a xs e =>
  b a _ (fun z => by rw [z, h.r] at e; cases e) (fun z => by rw [z, h.t] at e; cases e) (fun z => by rw [z, h.w] at e; cases e) e
theorem RdA.same (h : RdA CR H R T W dx lt ts ws n aw) (s : Same H H1) : RdA CR H1 R T W dx lt ts ws n aw := ⟨s _ _ h.r, s _ _ h.t, s _ _ h.w, h.x.keep (same_tk s), h.ne⟩
theorem RdA.rt (h : RdA CR H R T W dx lt ts ws n aw) : R ≠ T := fun z => by
  have := h.r
  rw [z, h.t] at this
  cases this
theorem RdA.rw (h : RdA CR H R T W dx lt ts ws n aw) : R ≠ W := fun z => by
  have := h.r
  rw [z, h.w] at this
  cases this
/-- its numbers and words are set -/
theorem RdA.setR {m : Nat} {aw' : Aw} (h : RdA CR H R T W dx lt ts ws n aw) : RdA CR (L2.upd H R (.ins CR dx (rdFs T W m (awS aw')))) R T W dx lt ts ws m aw' :=
  ⟨upd_same, by rw [upd_ne h.rt.symm]; exact h.t, by rw [upd_ne h.rw.symm]; exact h.w, h.x.keep (.updI h.r), h.ne⟩
/-- its trees are set -/
theorem RdA.setT {la : List Addr} {tr : List Tr} (h : RdA CR H R T W dx lt ts ws n aw) (x : Trs H la tr) : RdA CR (L2.upd H T (.lst (la.reverse.map V.ref))) R T W dx la tr ws n aw :=
  ⟨by rw [upd_ne h.rt]; exact h.r, upd_same, by rw [upd_ne h.ne.symm]; exact h.w, x.keep (.updL h.t), h.ne⟩
theorem RdA.setW {us : List Wt} (h : RdA CR H R T W dx lt ts ws n aw) : RdA CR (L2.upd H W (.lst (us.reverse.map wtV))) R T W dx lt ts us n aw :=
  ⟨by rw [upd_ne h.rw]; exact h.r, by rw [upd_ne h.ne]; exact h.t, upd_same, h.x.keep (.updL h.w), h.ne⟩
end
theorem rev_map {α β : Type} (f : α → β) (a : α) (l : List α) : (a :: l).reverse.map f = l.reverse.map f ++ [f a] := by simp
theorem last_app {α : Type} (l : List α) (a : α) : (l ++ [a])[(l ++ [a]).length - 1]? = some a := by simp
theorem drop_app {α : Type} (l : List α) (a : α) : (l ++ [a]).dropLast = l := by simp
theorem set_app {α : Type} (l : List α) (a b : α) : (l ++ [a]).set l.length b = l ++ [b] := by
  induction l with
  | nil => rfl
  | cons x l ih => rw [List.cons_append, List.length_cons, List.set_cons_succ, ih]; rfl
/-- what waits for a second part -/
def ops : List Wt → Nat
  | [] => 0
  | .br :: ws => ops ws
  | .op _ :: ws => ops ws + 1
def has : Aw → Nat
  | .part => 0
  | _ => 1
def Fit (s : Xp.St) : Prop := s.ts.length = ops s.ws + has s.aw
theorem fold_br (st : Bool) (ts : List Tr) (ws : List Wt) : Xp.fold st ts (.br :: ws) = (ts, .br :: ws) := by simp [Xp.fold, Xp.ahead]
theorem fold_not {st : Bool} {k : Op} (g : ¬ Xp.ahead (.op k) st = true) (ts : List Tr) (ws : List Wt) : Xp.fold st ts (.op k :: ws) = (ts, .op k :: ws) := by
  rw [Bool.not_eq_true] at g
  simp [Xp.fold, g]
theorem fold_nil (st : Bool) (ts : List Tr) : Xp.fold st ts [] = (ts, []) := by simp [Xp.fold]
theorem fold_fit (st : Bool) : ∀ (ws : List Wt) (ts : List Tr), ts.length = ops ws + 1 → (Xp.fold st ts ws).1.length = ops (Xp.fold st ts ws).2 + 1 ∧ (Xp.fold st ts ws).2.length ≤ ws.length
  | [], ts, h => by rw [fold_nil]; exact ⟨h, Nat.le_refl _⟩
  | .br :: ws, ts, h => by
    rw [fold_br]
    exact ⟨h, Nat.le_refl _⟩
  | .op k :: ws, ts, h => by
    by_cases g : Xp.ahead (.op k) st = true
    · match ts, h with
      | b :: a :: ts, h =>
        rw [Xp.fold_op (by simpa [Xp.ahead] using g)]
        have := fold_fit st ws (.bin k a b :: ts) (by
          have : ts.length + 1 + 1 = ops ws + 1 + 1 := h
          show ts.length + 1 = ops ws + 1
          omega)
        exact ⟨this.1, Nat.le_succ_of_le this.2⟩
      | [a], h =>
        have : 1 = ops ws + 1 + 1 := h
        omega
      | [], h =>
        have : 0 = ops ws + 1 + 1 := h
        omega
    · rw [fold_not g]
      exact ⟨h, Nat.le_refl _⟩
theorem fold_no : ∀ (ws : List Wt) (ts : List Tr) (k : Op) (r : List Wt), ts.length = ops ws + 1 → (Xp.fold false ts ws).2 ≠ .op k :: r
  | [], ts, k, r, _ => by rw [fold_nil]; exact fun z => by cases z
  | .br :: ws, ts, k, r, _ => by
    rw [fold_br]
    exact fun z => by cases z
  | .op k' :: ws, ts, k, r, h => by
    match ts, h with
    | b :: a :: ts, h =>
      rw [Xp.fold_op (by simp)]
      exact fold_no ws _ k r (by
        have : ts.length + 1 + 1 = ops ws + 1 + 1 := h
        show ts.length + 1 = ops ws + 1
        omega)
    | [a], h =>
      have : 1 = ops ws + 1 + 1 := h
      omega
    | [], h =>
      have : 0 = ops ws + 1 + 1 := h
      omega
theorem ops_br (ws : List Wt) : ops (.br :: ws) = ops ws := rfl
/-- a word taken: still fit, at most one sign more waits -/
theorem take_fit {s s' : Xp.St} {x : Tk} (f : Fit s) (h : Xp.take s x = some s') : Fit s' ∧ s'.ws.length ≤ s.ws.length + 1 ∧ s'.ps ≤ s.ps + 1 := by
  obtain ⟨ts, ws, ps, aw⟩ := s
  have f : ts.length = ops ws + has aw := f
  cases aw with
  | part =>
    cases x with
    | lp => cases h; exact ⟨f, Nat.le_refl _, Nat.le_succ _⟩
    | name w => cases h; exact ⟨by show ts.length + 1 = ops ws + 1; have : has .part = 0 := rfl; omega, Nat.le_succ _, Nat.le_refl _⟩
    | fig n => cases h; exact ⟨by show ts.length + 1 = ops ws + 1; have : has .part = 0 := rfl; omega, Nat.le_succ _, Nat.le_refl _⟩
    | _ => cases h
  | sign =>
    have f : ts.length = ops ws + 1 := f
    cases x with
    | rp =>
      obtain ⟨h1, h2⟩ := fold_fit false ws ts f
      have h : (match Xp.fold false ts ws with
        | (ts, _ :: ws) => some (Xp.St.mk ts ws ps .sign)
        | (_, []) => none) = some s' := h
      have h3 := fun k r => fold_no ws ts k r f
      revert h h1 h2 h3
      generalize Xp.fold false ts ws = q
      obtain ⟨ts', ws'⟩ := q
      intro h1 h2 h h3
      cases ws' with
      | nil => cases h
      | cons w ws' =>
        cases h
        cases w with
        | br => exact ⟨h1, by have : ws'.length + 1 ≤ ws.length := h2; show ws'.length ≤ ws.length + 1; omega, Nat.le_succ _⟩
        | op k => exact absurd rfl (h3 k ws')
    | op k =>
      by_cases g : ps + 2 > Xp.most
      · have h : (if ps + 2 > Xp.most then none else _) = some s' := h
        rw [if_pos g] at h
        cases h
      · have h : (if ps + 2 > Xp.most then none else match Xp.fold k.strong ts ws with
          | (ts, ws) => some (Xp.St.mk ts (.op k :: ws) (ps + 1) .part)) = some s' := h
        rw [if_neg g] at h
        obtain ⟨h1, h2⟩ := fold_fit k.strong ws ts f
        cases h
        exact ⟨h1, Nat.succ_le_succ h2, Nat.le_refl _⟩
    | hat =>
      have h : (if ps = Xp.most then none else some (Xp.St.mk ts ws (ps + 1) .ex)) = some s' := h
      by_cases g : ps = Xp.most
      · rw [if_pos g] at h
        cases h
      · rw [if_neg g] at h
        cases h
        exact ⟨f, Nat.le_succ _, Nat.le_refl _⟩
    | tick =>
      have h : (if ps = Xp.most then none else match ts with
        | t :: ts => some (Xp.St.mk (.turned t :: ts) ws (ps + 1) .sign)
        | [] => none) = some s' := h
      by_cases g : ps = Xp.most
      · rw [if_pos g] at h
        cases h
      · rw [if_neg g] at h
        cases ts with
        | nil => cases h
        | cons t ts =>
          cases h
          exact ⟨f, Nat.le_succ _, Nat.le_refl _⟩
    | _ => cases h
  | ex =>
    cases x with
    | op k =>
      cases k with
      | minus => cases h; exact ⟨f, Nat.le_succ _, Nat.le_succ _⟩
      | _ => cases h
    | fig n =>
      cases ts with
      | nil => cases h
      | cons t ts => cases h; exact ⟨f, Nat.le_succ _, Nat.le_succ _⟩
    | _ => cases h
  | less =>
    cases x with
    | fig n =>
      cases ts with
      | nil => cases h
      | cons t ts => cases h; exact ⟨f, Nat.le_succ _, Nat.le_succ _⟩
    | _ => cases h
end Xk
end
section
set_option Elab.async false
set_option linter.all false
set_option maxRecDepth 100000
set_option maxHeartbeats 4000000
namespace Xk
open PySem PySem.Spec PyProof.Rows L2 Xh LamX NdefX
/-! ### the reader's own ways -/
open Xp (Tr Op Wt Tk Aw)
structure RdK (K : PySem.W.Frag) (CR : Addr) : Prop where
  cl : Cls K CR
  n1 : NoAttr K CR "_trees"
  n2 : NoAttr K CR "_waiting"
  n3 : NoAttr K CR "_parts"
  n4 : NoAttr K CR "_awaited"
theorem ixN_last {α : Type} (l : List α) (a : α) : ixN (l ++ [a]).length (-1) = some l.length := by
  unfold ixN
  rw [List.length_append, List.length_singleton, if_neg (by decide), if_pos (by omega)]
  congr 1
  omega
def lenA (W : Addr) (H : Hp) : Nat := match H W with
  | some (.lst xs) => xs.length
  | _ => 0
theorem lenA_of {W : Addr} {H : Hp} {xs : List V} (h : H W = some (.lst xs)) : lenA W H = xs.length := by
  unfold lenA
  rw [h]
def spAhead : Sp := fun vs H Q _ => ∃ (x : Wt) (k : Op), vs = [wtV x, .str (opS k)] ∧ Q (.bl (Xp.ahead x k.strong)) H
def spRInit (CR : Addr) : Sp := fun vs H Q _ => ∃ (R dx : Addr), vs = [.ref R] ∧ H R = some (.ins CR dx []) ∧ ∀ (T W : Addr) (H' : Hp), (∀ b o, b ≠ R → H b = some o → H' b = some o) → H T = none → H W = none → RdAt CR H' R T W ⟨[], [], 0, .part⟩ → Q .non H'
def spFold (CR : Addr) : Sp := fun vs H Q _ => ∃ (R T W dx : Addr) (lt : List Addr) (ts : List Tr) (ws : List Wt) (n : Nat) (aw : Aw) (k : Op), vs = [.ref R, .str (opS k)] ∧ RdA CR H R T W dx lt ts ws n aw ∧ ts.length = ops ws + 1 ∧
  ∀ (la : List Addr) (H' : Hp), RB R T W H H' → RdA CR H' R T W dx la (Xp.fold k.strong ts ws).1 (Xp.fold k.strong ts ws).2 n aw → Q .non H'
def strongs : List V := [.str "times", .str "over"]
section
variable {P : Program} {w : World} {K : PySem.W.Frag} {mg : Str → Option Value} {base : Heap}
theorem sc_goes_ahead : FnScope (["waiting", "kind"] : List Str) ["waiting", "kind"] (defScope s_goes_ahead) := ⟨rfl, rfl, rfl, by decide +kernel, rfl, by decide +kernel, by decide +kernel⟩
theorem ok_goes_ahead {f aS : Addr} {fd : FuncData} (F : FunD K "goes_ahead" "goes_ahead" (defArgs s_goes_ahead) (defBody s_goes_ahead) (defScope s_goes_ahead) [] [] f fd) (mB : ∃ t, mg "BRACKET" = some (.str "(" t)) (mS : mg "STRONG" = some (.ref aS)) (hS : ∀ H, SqT K H aS strongs) : FnOk P w K mg base CX0 1 f fd ["waiting", "kind"] spAhead := by
  refine F.ok sc_goes_ahead (fun vs H Q E h => ?_) (fun cdv A outer s H vs Q E hr h => ?_)
  · obtain ⟨x, k, rfl, _⟩ := h
    rfl
  · obtain ⟨x, k, rfl, q⟩ := h
    obtain ⟨tB, mB⟩ := mB
    refine ⟨_, PSs.nox (pss_cons (ps_if (pt_cmpR op_eq (pv 0) (pe_glob (v := .str "(") rfl mB ⟨_, rfl⟩) (nomark _)) (pss_one (ps_ret pe_bl)) pss_nil)
      (pss_one (ps_ret (pe_or (pe_cmpR op_in_seq (pv 0) (pe_glob (v := .ref aS) rfl mS rfl) (by rfl)) (pe_one (pe_cmpR op_notIn_seq (pv 1) (pe_glob (v := .ref aS) rfl mS rfl) (by rfl))))))) , ?_⟩
    cases x with
    | br =>
      refine ⟨_, rfl, rfl, _, rfl, ?_⟩
      exact iteT q
    | op x =>
      have hc : (V.str (opS x) = V.str "(") = False := by cases x <;> exact eq_false (by intro z; have := V.str.inj z; revert this; decide)
      have h1 : inV (V.str (opS x)) strongs = x.strong := by cases x <;> decide
      have h2 : inV (V.str (opS k)) strongs = k.strong := by cases k <;> decide
      have h3 : (flatV (V.str (opS k)) = true) ∧ strongs.all flatV = true := ⟨rfl, rfl⟩
      refine ⟨_, rfl, rfl, _, rfl, ?_⟩
      rw [show wtV (.op x) = V.str (opS x) from rfl, decide_eq_false (by rw [hc]; exact id)]
      refine iteF ?_
      refine ⟨_, rfl, aS, strongs, rfl, .inr (hS _), rfl, rfl, ?_⟩
      have q2 : Q (.bl (x.strong || !k.strong)) H := q
      refine ⟨x.strong, congrArg V.bl h1, ?_⟩
      cases hx : x.strong with
      | true =>
        rw [hx] at q2
        exact iteT q2
      | false =>
        rw [hx, Bool.false_or, ← h2] at q2
        exact iteF ⟨_, rfl, aS, strongs, rfl, .inr (hS _), rfl, rfl, q2⟩
theorem sc_Reader___init : FnScope (["self"] : List Str) ["self"] (defScope s_Reader___init) := ⟨rfl, rfl, rfl, by decide +kernel, rfl, by decide +kernel, by decide +kernel⟩
theorem ok_Reader___init {f CR : Addr} {fd : FuncData} (F : FunD K "__init__" "Reader.__init__" (defArgs s_Reader___init) (defBody s_Reader___init) (defScope s_Reader___init) [] [] f fd) (KR : RdK K CR) : FnOk P w K mg base CX0 1 f fd ["self"] (spRInit CR) := by
  refine F.ok sc_Reader___init (fun vs H Q E h => ?_) (fun cdv A outer s H vs Q E hr h => ?_)
  · obtain ⟨R, dx, rfl, _⟩ := h
    rfl
  · obtain ⟨R, dx, rfl, eR, q⟩ := h
    refine ⟨_, PSs.nox (pss_cons (ps_fld (pv 0) (pe_lst pa_nil) rfl)
      (pss_cons (ps_fld (pv 0) (pe_lst pa_nil) rfl)
      (pss_cons (ps_fld (pv 0) pe_int rfl)
      (pss_one (ps_fld (pv 0) pe_str rfl))))) , ?_⟩
    refine ⟨(by show 0 ≤ sizeLine; decide), fun T hT => ⟨_, rfl, R, CR, dx, [], rfl, same_upd hT _ _ eR, KR.cl, KR.n1, (by decide), ?_⟩⟩
    refine ⟨(by show 0 ≤ sizeLine; decide), fun W hW => ⟨_, rfl, R, CR, dx, _, rfl, same_upd hW _ _ upd_same, KR.cl, KR.n2, (by show 1 < 1000; decide), ?_⟩⟩
    have nRT : R ≠ T := ne_of_none eR hT
    have nRW : R ≠ W := ne_of_none upd_same hW
    have nTW : T ≠ W := ne_of_none (H := L2.upd (L2.upd H T (.lst [])) R (.ins CR dx [("_trees", .ref T)])) (o := .lst []) (by rw [upd_ne nRT.symm, upd_same]) hW
    have hW0 : H W = none := by
      rw [upd_ne nRW.symm, upd_ne nTW.symm] at hW
      exact hW
    refine ⟨_, rfl, R, CR, dx, _, rfl, upd_same, KR.cl, KR.n3, (by show 2 < 1000; decide), ?_⟩
    refine ⟨_, rfl, R, CR, dx, _, rfl, upd_same, KR.cl, KR.n4, (by show 3 < 1000; decide), ?_⟩
    refine q T W _ (fun b o hb e => ?_) hT hW0 ⟨dx, [], ⟨upd_same, ?_, ?_, trivial, nTW⟩⟩
    · rw [upd_ne hb, upd_ne hb, upd_ne hb, upd_ne (ne_of_none e hW0), upd_ne hb, upd_ne (ne_of_none e hT)]
      exact e
    · rw [upd_ne nRT.symm, upd_ne nRT.symm, upd_ne nRT.symm, upd_ne nTW, upd_ne nRT.symm, upd_same]
      rfl
    · rw [upd_ne nRW.symm, upd_ne nRW.symm, upd_ne nRW.symm, upd_same]
      rfl
theorem sc_Reader__fold : FnScope (["self", "kind", "second"] : List Str) ["self", "kind"] (defScope s_Reader__fold) := ⟨rfl, rfl, rfl, by decide +kernel, rfl, by decide +kernel, by decide +kernel⟩
theorem ok_Reader__fold {f CR : Addr} {fd : FuncData} (F : FunD K "_fold" "Reader._fold" (defArgs s_Reader__fold) (defBody s_Reader__fold) (defScope s_Reader__fold) [] [] f fd) (KR : RdK K CR) (o_goes_ahead : Own P w K mg base CX0 1 "goes_ahead" ["waiting", "kind"] [] spAhead) : FnOk P w K mg base CX0 2 f fd ["self", "kind"] (spFold CR) := by
  refine F.ok sc_Reader__fold (fun vs H Q E h => ?_) (fun cdv A outer s H vs Q E hr h => ?_)
  · obtain ⟨R, T, W, dx, lt, ts, ws, n, aw, k, rfl, _⟩ := h
    rfl
  · obtain ⟨R, T, W, dx, lt, ts, ws, n, aw, k, rfl, S, hl, q⟩ := h
    refine ⟨_, PSs.nox (pss_one (ps_while PassesOwn.never (PW.pt (pw_and (pt_truth (pe_fld (pv 0) rfl) (by intro _; rfl)) (pw_and1 (pt_val (pe_own o_goes_ahead (hr.mono (by decide)) rfl pass0 (pa_cons (pe_ix ix_list (pe_fld (pv 0) rfl) (pe_un un_neg pe_int) (fun _ _ => rfl)) (pa_cons (pv 1) pa_nil))))))) (pss_cons (ps_set (i := 2) sc_Reader__fold.nd rfl (Or.inl rfl) (pe_bm0 PySem.F.plainAttrs_list PySem.F.slot_list_pop PySem.F.type_list_pop mt_pop (pe_fld (pv 0) rfl)))
      (pss_one (ps_asg (pe_tup (pa_cons (pe_bm0 PySem.F.plainAttrs_list PySem.F.slot_list_pop PySem.F.type_list_pop mt_pop (pe_fld (pv 0) rfl)) (pa_cons (pe_ix ix_list (pe_fld (pv 0) rfl) (pe_un un_neg pe_int) (fun _ _ => rfl)) (pa_cons (pv 2) pa_nil)))) (pg_sub (pe_fld (pv 0) rfl) (pe_un un_neg pe_int) set_list)))))) , ?_⟩
    refine while_by (fun σ' H' => ∃ (la : List Addr) (ts' : List Tr) (ws' : List Wt) (x2 : Option V), σ' = [some (.ref R), some (.str (opS k)), x2] ∧ RB R T W H H' ∧ RdA CR H' R T W dx la ts' ws' n aw ∧ ts'.length = ops ws' + 1 ∧ Xp.fold k.strong ts' ws' = Xp.fold k.strong ts ws) (fun σ' H' => lenA W H') ⟨lt, ts, ws, none, rfl, RB.refl, S, hl, rfl⟩ ?_ ?_
    · rintro σ' H' ⟨la, ts', ws', x2, rfl, B, S', hl', ef⟩
      refine ⟨_, rfl, R, CR, dx, _, _, rfl, S'.r, KR.cl, KR.n2, rfl, ?_⟩
      refine ⟨_, .inl ⟨_, SqL.of S'.w, rfl⟩, ?_⟩
      cases ws' with
      | nil =>
        refine iteF (iteF ?_)
        rw [fold_nil] at ef
        have S2 : RdA CR H' R T W dx la (Xp.fold k.strong ts ws).1 (Xp.fold k.strong ts ws).2 n aw := by rw [← ef]; exact S'
        exact q la H' B S2
      | cons w1 us =>
        have w1e : (!(((w1 :: us).reverse.map wtV).isEmpty)) = true := by rw [rev_map]; simp
        rw [w1e]
        refine iteT ?_
        refine ⟨_, rfl, R, CR, dx, _, _, rfl, S'.r, KR.cl, KR.n2, rfl, _, rfl, W, _, -1, wtV w1, rfl, rfl, SqL.of S'.w, by rw [rev_map]; exact atI_last _ _, _, rfl, w1, k, rfl, _, rfl, ?_⟩
        cases ga : Xp.ahead w1 k.strong with
        | false =>
          refine iteF ?_
          have ef2 : (ts', w1 :: us) = Xp.fold k.strong ts ws := by
            rw [← ef]
            cases w1 with
            | br => rw [fold_br]
            | op x => rw [fold_not (by rw [ga]; exact Bool.false_ne_true)]
          have S2 : RdA CR H' R T W dx la (Xp.fold k.strong ts ws).1 (Xp.fold k.strong ts ws).2 n aw := by rw [← ef2]; exact S'
          exact q la H' B S2
        | true =>
          refine iteT ?_
          cases w1 with
          | br => cases ga
          | op x =>
            obtain ⟨t2, t1, tr, rfl⟩ : ∃ t2 t1 tr, ts' = t2 :: t1 :: tr := by
              have : ts'.length = ops us + 1 + 1 := hl'
              match ts', this with
              | t2 :: t1 :: tr, _ => exact ⟨t2, t1, tr, rfl⟩
            obtain ⟨a2, la1, rfl, x2', xr⟩ := S'.x.one
            obtain ⟨a1, la0, rfl, x1, xr⟩ := xr.one
            have eT : H' T = some (.lst ((a1 :: la0).reverse.map V.ref ++ [.ref a2])) := by rw [← rev_map]; exact S'.t
            refine ⟨_, rfl, R, CR, dx, _, _, rfl, S'.r, KR.cl, KR.n1, rfl, .inl ⟨rfl, _, SqL.of eT⟩, T, _, .ref a2, rfl, rfl, eT, last_app _ _, ?_⟩
            have S1 : RdA CR (L2.upd H' T (.lst ((a1 :: la0).reverse.map V.ref ++ [V.ref a2]).dropLast)) R T W dx (a1 :: la0) (t1 :: tr) (.op x :: us) n aw := by
              rw [drop_app]
              exact S'.setT ⟨x1, xr⟩
            have k1 : TupK H' (L2.upd H' T (.lst ((a1 :: la0).reverse.map V.ref ++ [V.ref a2]).dropLast)) := .updL S'.t
            have B1 : RB R T W H (L2.upd H' T (.lst ((a1 :: la0).reverse.map V.ref ++ [V.ref a2]).dropLast)) := B.trans .updT
            generalize L2.upd H' T (.lst ((a1 :: la0).reverse.map V.ref ++ [V.ref a2]).dropLast) = H1 at *
            have eW : H1 W = some (.lst (us.reverse.map wtV ++ [wtV (.op x)])) := by rw [← rev_map]; exact S1.w
            refine ⟨_, rfl, R, CR, dx, _, _, rfl, S1.r, KR.cl, KR.n2, rfl, .inl ⟨rfl, _, SqL.of eW⟩, W, _, wtV (.op x), rfl, rfl, eW, last_app _ _, ?_⟩
            have S2 : RdA CR (L2.upd H1 W (.lst (us.reverse.map wtV ++ [wtV (.op x)]).dropLast)) R T W dx (a1 :: la0) (t1 :: tr) us n aw := by
              rw [drop_app]
              exact S1.setW
            have k2 : TupK H' (L2.upd H1 W (.lst (us.reverse.map wtV ++ [wtV (.op x)]).dropLast)) := k1.trans (.updL S1.w)
            have B2 : RB R T W H (L2.upd H1 W (.lst (us.reverse.map wtV ++ [wtV (.op x)]).dropLast)) := B1.trans .updW
            generalize L2.upd H1 W (.lst (us.reverse.map wtV ++ [wtV (.op x)]).dropLast) = H2 at *
            have eT2 : H2 T = some (.lst (la0.reverse.map V.ref ++ [.ref a1])) := by rw [← rev_map]; exact S2.t
            refine ⟨_, rfl, R, CR, dx, _, _, rfl, S2.r, KR.cl, KR.n1, rfl, _, rfl, T, _, -1, .ref a1, rfl, rfl, SqL.of eT2, atI_last _ _, _, rfl, (by show 3 ≤ sizeLine; decide), fun p hp => ?_⟩
            have S3 := S2.same (same_upd (o := .tup [wtV (.op x), .ref a1, .ref a2]) hp)
            have k3 := k2.trans (same_tk (same_upd (o := .tup [wtV (.op x), .ref a1, .ref a2]) hp))
            have B3 := B2.trans (.same (same_upd (o := .tup [wtV (.op x), .ref a1, .ref a2]) hp))
            have ep : L2.upd H2 p (.tup [wtV (.op x), .ref a1, .ref a2]) p = some (.tup [wtV (.op x), .ref a1, .ref a2]) := upd_same
            show gSub _ _ _ _ _ (L2.upd H2 p (.tup [wtV (.op x), .ref a1, .ref a2])) _
            generalize L2.upd H2 p (.tup [wtV (.op x), .ref a1, .ref a2]) = H3 at *
            have eT3 : H3 T = some (.lst (la0.reverse.map V.ref ++ [.ref a1])) := by rw [← rev_map]; exact S3.t
            refine ⟨_, rfl, R, CR, dx, _, _, rfl, S3.r, KR.cl, KR.n1, rfl, _, rfl, T, _, -1, _, rfl, rfl, eT3, ixN_last _ _, ?_⟩
            have S4 : RdA CR (L2.upd H3 T (.lst ((la0.reverse.map V.ref ++ [V.ref a1]).set (la0.reverse.map V.ref).length (.ref p)))) R T W dx (p :: la0) (.bin x t1 t2 :: tr) us n aw := by
              rw [set_app, ← rev_map]
              exact S3.setT ⟨⟨a1, a2, ep, S3.x.1, x2'.keep k3⟩, S3.x.2⟩
            have B4 : RB R T W H (L2.upd H3 T (.lst ((la0.reverse.map V.ref ++ [V.ref a1]).set (la0.reverse.map V.ref).length (.ref p)))) := B3.trans .updT
            refine ⟨⟨_, _, _, _, rfl, B4, S4, ?_, ?_⟩, ?_⟩
            · have : tr.length + 1 + 1 = ops us + 1 + 1 := hl'
              show tr.length + 1 = ops us + 1
              omega
            · rw [← ef, Xp.fold_op (by simpa [Xp.ahead] using ga)]
            · rw [lenA_of S4.w, lenA_of S'.w]
              simp
    · rintro σ H Q Q' m ⟨v, h1, a, C, dx', fs, v2, e1, e2, e3, e4, e5, b, e6, q⟩
      refine ⟨v, h1, a, C, dx', fs, v2, e1, e2, e3, e4, e5, b, e6, ?_⟩
      cases b with
      | false => exact iteF (m _ _ ((if_neg Bool.false_ne_true).mp q))
      | true =>
        rw [if_pos rfl] at q
        obtain ⟨v, h1, a, C, dx', fs, v2, e1, e2, e3, e4, e5, i, h2, p, xs, j, y, f1, f2, f3, f4, v3, h3, x, k2, f5, c, f6, q⟩ := q
        exact iteT ⟨v, h1, a, C, dx', fs, v2, e1, e2, e3, e4, e5, i, h2, p, xs, j, y, f1, f2, f3, f4, v3, h3, x, k2, f5, c, f6, m _ _ q⟩
end
end Xk
end
section
set_option Elab.async false
set_option linter.all false
set_option maxRecDepth 100000
set_option maxHeartbeats 4000000
namespace Xk
open PySem PySem.Spec PyProof.Rows L2 Xh LamX NdefX
/-! ### a word taken -/
open Xp (Tr Op Wt Tk Aw)
theorem ops_le : ∀ ws : List Wt, ops ws ≤ ws.length
  | [] => Nat.le_refl _
  | .br :: ws => Nat.le_succ_of_le (ops_le ws)
  | .op _ :: ws => Nat.succ_le_succ (ops_le ws)
/-- what is told of a word: whether it was taken, and then what the reader holds -/
def Res (CR R T W : Addr) (H : Hp) (Q : VK) (o : Option Xp.St) : Prop := (∀ s' H', o = some s' → RB R T W H H' → RdAt CR H' R T W s' → Q (.bl true) H') ∧ (∀ H', o = none → RB R T W H H' → Q (.bl false) H')
theorem inV_two (y : Str) (a b : Nat) : inV (V.str y) [.str ⟨#[a]⟩, .str ⟨#[b]⟩] = (decide (TL.tl y = [a]) || decide (TL.tl y = [b])) := by
  have e : ∀ c : Nat, eqV (.str ⟨#[c]⟩) (.str y) = decide (TL.tl y = [c]) := fun c => by
    show ((⟨#[c]⟩ : Str) == y) = _
    by_cases h : TL.tl y = [c]
    · have : y = ⟨#[c]⟩ := TL.ext_tl h
      rw [decide_eq_true h, this]
      exact beq_self_eq_true _
    · rw [decide_eq_false h]
      exact beq_eq_false_iff_ne.mpr fun z => h (by rw [← z])
  unfold inV
  rw [List.any_cons, List.any_cons, List.any_nil, e, e, Bool.or_false]
/-- the table of kinds, in the written part -/
structure KindsF (K : PySem.W.Frag) (aK : Addr) : Prop where
  some_ : ∀ k : Op, ∃ u, PySem.W.nsIn K aK ⟨(opL k).toArray⟩ = some (some u) ∧ RelV (.str (opS k)) u
  none_ : ∀ z : Str, (∀ k, TL.tl z ≠ opL k) → PySem.W.nsIn K aK z = some none
def isEx : Aw → Bool
  | .ex => true
  | _ => false
/-- what is told at the end of a text -/
def endS (s : Xp.St) : Option Tr := match s.aw with
  | .sign => match Xp.fold false s.ts s.ws with
    | (t :: _, []) => some t
    | _ => none
  | _ => none
def spEnded (CR : Addr) : Sp := fun vs H Q _ => ∃ (R T W dx : Addr) (lt : List Addr) (ts : List Tr) (ws : List Wt) (n : Nat) (aw : Aw), vs = [.ref R] ∧ RdA CR H R T W dx lt ts ws n aw ∧ ts.length = ops ws + has aw ∧
  (∀ t a H', endS ⟨ts, ws, n, aw⟩ = some t → RB R T W H H' → TreeAt H' a t → Q (.ref a) H') ∧ ∀ H', endS ⟨ts, ws, n, aw⟩ = none → RB R T W H H' → Q .non H'
def spClose (CR : Addr) : Sp := fun vs H Q _ => ∃ (R T W dx : Addr) (lt : List Addr) (ts : List Tr) (ws : List Wt) (n : Nat), vs = [.ref R] ∧ RdA CR H R T W dx lt ts ws n .sign ∧ ts.length = ops ws + 1 ∧ Res CR R T W H Q (Xp.take ⟨ts, ws, n, .sign⟩ .rp)
def spJoin (CR : Addr) : Sp := fun vs H Q _ => ∃ (R T W dx : Addr) (lt : List Addr) (ts : List Tr) (ws : List Wt) (n : Nat) (k : Op), vs = [.ref R, .str (opS k)] ∧ RdA CR H R T W dx lt ts ws n .sign ∧ ts.length = ops ws + 1 ∧ ws.length ≤ 6000 ∧ Res CR R T W H Q (Xp.take ⟨ts, ws, n, .sign⟩ (.op k))
def spTk (CR : Addr) (pre : Aw → Prop) : Sp := fun vs H Q _ => ∃ (R T W dx : Addr) (lt : List Addr) (ts : List Tr) (ws : List Wt) (n : Nat) (aw : Aw) (y : Str), vs = [.ref R, .str y] ∧ y.length ≤ 5000 ∧ RdA CR H R T W dx lt ts ws n aw ∧ ts.length = ops ws + has aw ∧ ws.length ≤ 6000 ∧ pre aw ∧ Res CR R T W H Q (tkS ⟨ts, ws, n, aw⟩ (TL.tl y))
theorem name_tk {w : List Nat} (h : nameB w = true) : tkOf w = some (.name w) := by
  unfold tkOf
  rw [if_pos h]
theorem fig_tk {w : List Nat} (hn : nameB w = false) (h : figB 6 w = true) : tkOf w = some (.fig (NumText.digitsVal w)) := by
  unfold tkOf
  rw [if_neg (by rw [hn]; exact Bool.false_ne_true), if_pos h]
theorem sign_tk {w : List Nat} (hn : nameB w = false) (h : figB 6 w = false) : tkOf w = signTk w := by
  unfold tkOf
  rw [if_neg (by rw [hn]; exact Bool.false_ne_true), if_neg (by rw [h]; exact Bool.false_ne_true)]
theorem fig_name {w : List Nat} (h : figB 6 w = true) : nameB w = false := by
  unfold figB at h
  unfold nameB
  cases w with
  | nil => cases h
  | cons c r =>
    simp at h ⊢
    intro _ _ _
    omega
theorem fig_val {y : Str} (h : figB 6 (TL.tl y) = true) : PySem.intText? y = some ((NumText.digitsVal (TL.tl y) : Nat) : Int) ∧ y.length ≤ 6 := by
  unfold figB at h
  obtain ⟨h, _⟩ := Bool.and_eq_true_iff.mp h
  obtain ⟨h, h6⟩ := Bool.and_eq_true_iff.mp h
  obtain ⟨h0, hd⟩ := Bool.and_eq_true_iff.mp h
  have l6 := of_decide_eq_true h6
  have lt : y.length = (TL.tl y).length := TL.len_tl y
  have dg : NumText.AllDigits (TL.tl y) := fun c hc => by
    have := List.all_eq_true.mp hd c hc
    simpa using this
  exact ⟨PySem.intText_digits dg (of_decide_eq_true h0) (by omega), by omega⟩
/-- what is none of the signs of a state isn't taken -/
theorem begin_none {ts : List Tr} {ws : List Wt} {n : Nat} {w : List Nat} (h1 : w ≠ [40]) (hn : nameB w = false) (hf : figB 6 w = false) : tkS ⟨ts, ws, n, .part⟩ w = none := by
  unfold tkS
  rw [sign_tk hn hf]
  unfold signTk
  split <;> first | rfl | exact absurd rfl h1
theorem sign_none {ts : List Tr} {ws : List Wt} {n : Nat} {w : List Nat} (h1 : w ≠ [41]) (h2 : ∀ k, w ≠ opL k) (h3 : w ≠ [94]) (h4 : w ≠ [39]) : tkS ⟨ts, ws, n, .sign⟩ w = none := by
  unfold tkS tkOf
  split
  · rfl
  · split
    · rfl
    · unfold signTk
      split <;> first | rfl | exact absurd rfl h1 | exact absurd rfl h3 | exact absurd rfl h4 | exact absurd rfl (h2 .plus) | exact absurd rfl (h2 .minus) | exact absurd rfl (h2 .times) | exact absurd rfl (h2 .over)
theorem ex_none {ts : List Tr} {ws : List Wt} {n : Nat} {aw : Aw} {w : List Nat} (ha : aw = .ex ∨ aw = .less) (h1 : aw = .ex → w ≠ [45]) (hf : figB 6 w = false) : tkS ⟨ts, ws, n, aw⟩ w = none := by
  unfold tkS
  cases hn : nameB w with
  | true =>
    rw [name_tk hn]
    rcases ha with rfl | rfl <;> rfl
  | false =>
    rw [sign_tk hn hf]
    rcases ha with rfl | rfl
    · have h1 := h1 rfl
      unfold signTk
      split <;> first | rfl | exact absurd rfl h1
    · unfold signTk
      split <;> rfl
theorem RdA.appT {CR R T W dx p : Addr} {lt : List Addr} {ts : List Tr} {ws : List Wt} {n : Nat} {aw : Aw} {H : Hp} {t : Tr} (S : RdA CR H R T W dx lt ts ws n aw) (x : TreeAt H p t) : RdA CR (L2.upd H T (.lst (lt.reverse.map V.ref ++ [.ref p]))) R T W dx (p :: lt) (t :: ts) ws n aw := by
  have := S.setT (la := p :: lt) (tr := t :: ts) ⟨x, S.x⟩
  rw [rev_map] at this
  exact this
theorem RdA.appW {CR R T W dx : Addr} {lt : List Addr} {ts : List Tr} {ws : List Wt} {n : Nat} {aw : Aw} {H : Hp} {x : Wt} (S : RdA CR H R T W dx lt ts ws n aw) : RdA CR (L2.upd H W (.lst (ws.reverse.map wtV ++ [wtV x]))) R T W dx lt ts (x :: ws) n aw := by
  have := S.setW (us := x :: ws)
  rw [rev_map] at this
  exact this
section
variable {P : Program} {w : World} {K : PySem.W.Frag} {mg : Str → Option Value} {base : Heap}
theorem sc_Reader__begin : FnScope (["self", "word"] : List Str) ["self", "word"] (defScope s_Reader__begin) := ⟨rfl, rfl, rfl, by decide +kernel, rfl, by decide +kernel, by decide +kernel⟩
theorem ok_Reader__begin {f CR : Addr} {fd : FuncData} (F : FunD K "_begin" "Reader._begin" (defArgs s_Reader__begin) (defBody s_Reader__begin) (defScope s_Reader__begin) [] [] f fd) (KR : RdK K CR) (T : Fre mg) (mB : ∃ t, mg "BRACKET" = some (.str "(" t)) (mF : ∃ t, mg "MOST_FIGURES" = some (.int 6 t)) (o_is_name : Own P w K mg base CX0 1 "is_name" ["told"] [] spNameB) (o_is_figures : Own P w K mg base CX0 1 "is_figures" ["word", "most"] [] spFigB) : FnOk P w K mg base CX0 2 f fd ["self", "word"] (spTk CR (· = .part)) := by
  refine F.ok sc_Reader__begin (fun vs H Q E h => ?_) (fun cdv A outer s H vs Q E hr h => ?_)
  · obtain ⟨R, T, W, dx, lt, ts, ws, n, aw, y, rfl, _⟩ := h
    rfl
  · obtain ⟨R, TA, W, dx, lt, ts, ws, n, aw, y, rfl, ly, S, hl, hw, rfl, q⟩ := h
    obtain ⟨tB, mB⟩ := mB
    obtain ⟨tF, mF⟩ := mF
    have hl : ts.length = ops ws := hl
    have l1 := S.x.len
    have l2 := ops_le ws
    refine ⟨_, PSs.nox (pss_cons (ps_if (pt_cmpR op_eq (pv 1) (pe_glob (v := .str "(") rfl mB ⟨_, rfl⟩) (nomark _)) (pss_cons (ps_expr (pe_bm PySem.F.plainAttrs_list PySem.F.slot_list_append PySem.F.type_list_append mt_append (pe_fld (pv 0) rfl) (pa_cons (pv 1) pa_nil)))
      (pss_one (ps_ret pe_bl))) pss_nil)
      (C8.pss_cut (ps_if (pt_val (pe_own o_is_name (hr.mono (by decide)) rfl pass0 (pa_cons (pv 1) pa_nil))) (pss_one (ps_expr (pe_bm PySem.F.plainAttrs_list PySem.F.slot_list_append PySem.F.type_list_append mt_append (pe_fld (pv 0) rfl) (pa_cons (pe_tup (pa_cons pe_str (pa_cons (pv 1) pa_nil))) pa_nil)))) (pss_one (ps_if (pt_val (pe_own o_is_figures (hr.mono (by decide)) rfl pass0 (pa_cons (pv 1) (pa_cons (pe_glob (v := .int 6) rfl mF ⟨_, rfl⟩) pa_nil)))) (pss_one (ps_expr (pe_bm PySem.F.plainAttrs_list PySem.F.slot_list_append PySem.F.type_list_append mt_append (pe_fld (pv 0) rfl) (pa_cons (pe_tup (pa_cons pe_str (pa_cons (pe_callTy call_int_str (by rfl) T.f_int (by decide +kernel) (pa_cons (pv 1) pa_nil)) pa_nil))) pa_nil)))) (pss_one (ps_ret pe_bl)))))
      (pss_cons (ps_fldaug (pv 0) pe_int in_add)
      (pss_cons (ps_fld (pv 0) pe_str rfl)
      (pss_one (ps_ret pe_bl)))))) , ?_⟩
    refine ⟨_, rfl, rfl, _, rfl, ?_⟩
    rw [show (Str.ofString "(") = (⟨#[40]⟩ : Str) from rfl, str_one]
    by_cases h1 : TL.tl y = [40]
    · rw [decide_eq_true h1]
      refine iteT ?_
      refine ⟨_, rfl, R, CR, dx, _, _, rfl, S.r, KR.cl, KR.n2, rfl, .inl ⟨rfl, _, SqL.of S.w⟩, _, rfl, W, _, _, rfl, rfl, S.w, by rw [List.length_map, List.length_reverse]; exact line4 (by omega), ?_⟩
      have ey : y = ⟨#[40]⟩ := TL.ext_tl h1
      subst ey
      exact q.1 ⟨ts, .br :: ws, n, .part⟩ _ rfl RB.updW ⟨dx, lt, S.appW (x := .br)⟩
    · rw [decide_eq_false h1]
      refine iteF ?_
      refine ⟨fun σ' H' => ∃ p t, σ' = [some (.ref R), some (.str y)] ∧ RB R TA W H H' ∧ RdA CR H' R TA W dx (p :: lt) (t :: ts) ws n .part ∧ tkS ⟨ts, ws, n, .part⟩ (TL.tl y) = some ⟨t :: ts, ws, n + 1, .sign⟩, ?_, ?_⟩
      · refine ⟨_, rfl, y, rfl, ly, _, rfl, ?_⟩
        cases hn : nameB (TL.tl y) with
        | true =>
          refine iteT ?_
          refine ⟨_, rfl, R, CR, dx, _, _, rfl, S.r, KR.cl, KR.n1, rfl, .inl ⟨rfl, _, SqL.of S.t⟩, _, rfl, (by show 2 ≤ sizeLine; decide), fun p hp => ?_⟩
          have S2 := S.same (same_upd (o := .tup [.str "name", .str y]) hp)
          refine ⟨TA, _, _, rfl, rfl, S2.t, by rw [List.length_map, List.length_reverse]; exact line4 (by omega), ?_⟩
          refine ⟨p, .name (TL.tl y), rfl, (RB.same (same_upd hp)).trans .updT, S2.appT ⟨y, upd_same, rfl⟩, ?_⟩
          unfold tkS
          rw [name_tk hn]
          rfl
        | false =>
          refine iteF ?_
          refine ⟨_, rfl, y, 6, rfl, ly, _, rfl, ?_⟩
          cases hf : figB 6 (TL.tl y) with
          | true =>
            refine iteT ?_
            obtain ⟨f1, f2⟩ := fig_val hf
            refine ⟨_, rfl, R, CR, dx, _, _, rfl, S.r, KR.cl, KR.n1, rfl, .inl ⟨rfl, _, SqL.of S.t⟩, _, rfl, y, _, rfl, f1, by omega, (by show 2 ≤ sizeLine; decide), fun p hp => ?_⟩
            have S2 := S.same (same_upd (o := .tup [.str "number", .int ((NumText.digitsVal (TL.tl y) : Nat) : Int)]) hp)
            refine ⟨TA, _, _, rfl, rfl, S2.t, by rw [List.length_map, List.length_reverse]; exact line4 (by omega), ?_⟩
            refine ⟨p, .num (NumText.digitsVal (TL.tl y)), rfl, (RB.same (same_upd hp)).trans .updT, S2.appT upd_same, ?_⟩
            unfold tkS
            rw [fig_tk hn hf]
            rfl
          | false =>
            refine iteF ?_
            exact q.2 _ (begin_none h1 hn hf) RB.refl
      · rintro σ' H' ⟨p, t, rfl, B, S', e⟩
        refine ⟨_, rfl, R, CR, dx, _, _, rfl, S'.r, KR.cl, KR.n3, rfl, _, _, rfl, rfl, dx, _, S'.r, (by show 4 < 1000; decide), ?_⟩
        refine ⟨_, rfl, R, CR, dx, _, rfl, upd_same, KR.cl, KR.n4, (by show 4 < 1000; decide), ?_⟩
        have S4 := S'.setR (m := n + 1) (aw' := .sign)
        rw [upd_upd]
        exact q.1 ⟨t :: ts, ws, n + 1, .sign⟩ _ e (B.trans .updR) ⟨dx, _, S4⟩
theorem sc_Reader__close : FnScope (["self"] : List Str) ["self"] (defScope s_Reader__close) := ⟨rfl, rfl, rfl, by decide +kernel, rfl, by decide +kernel, by decide +kernel⟩
theorem ok_Reader__close {f CR : Addr} {fd : FuncData} (F : FunD K "_close" "Reader._close" (defArgs s_Reader__close) (defBody s_Reader__close) (defScope s_Reader__close) [] [] f fd) (KR : RdK K CR) (o_Reader__fold : OwnM P w K mg base CX0 2 CR "_fold" ["self", "kind"] [] (spFold CR)) : FnOk P w K mg base CX0 3 f fd ["self"] (spClose CR) := by
  refine F.ok sc_Reader__close (fun vs H Q E h => ?_) (fun cdv A outer s H vs Q E hr h => ?_)
  · obtain ⟨R, T, W, dx, lt, ts, ws, n, rfl, _⟩ := h
    rfl
  · obtain ⟨R, TA, W, dx, lt, ts, ws, n, rfl, S, hl, q⟩ := h
    refine ⟨_, PSs.nox (pss_cons (ps_expr (pe_ownM o_Reader__fold (hr.mono (by decide)) pass0 (pv 0) (pa_cons pe_str pa_nil)))
      (pss_cons (ps_if (pt_not (pt_truth (pe_fld (pv 0) rfl) (by intro _; rfl))) (pss_one (ps_ret pe_bl)) pss_nil)
      (pss_cons (ps_expr (pe_bm0 PySem.F.plainAttrs_list PySem.F.slot_list_pop PySem.F.type_list_pop mt_pop (pe_fld (pv 0) rfl)))
      (pss_one (ps_ret pe_bl))))) , ?_⟩
    refine ⟨_, rfl, R, dx, _, rfl, S.r, rfl, R, TA, W, dx, lt, ts, ws, n, .sign, .plus, rfl, S, hl, fun la H2 B2 S2 => ?_⟩
    refine ⟨_, rfl, R, CR, dx, _, _, rfl, S2.r, KR.cl, KR.n2, rfl, _, .inl ⟨_, SqL.of S2.w, rfl⟩, ?_⟩
    have q : Res CR R TA W H Q (match Xp.fold false ts ws with
      | (ts, _ :: ws) => some (Xp.St.mk ts ws n .sign)
      | (_, []) => none) := q
    have S2 : RdA CR H2 R TA W dx la (Xp.fold false ts ws).1 (Xp.fold false ts ws).2 n .sign := S2
    show if (!!(((Xp.fold false ts ws).2.reverse.map wtV).isEmpty)) = true then _ else _
    revert q S2
    generalize Xp.fold false ts ws = z
    obtain ⟨ts2, ws2⟩ := z
    intro q S2
    cases ws2 with
    | nil =>
      refine iteT ?_
      exact q.2 _ rfl B2
    | cons x us =>
      have e1 : (!!(((x :: us).reverse.map wtV).isEmpty)) = false := by rw [rev_map]; simp
      show if (!!(((x :: us).reverse.map wtV).isEmpty)) = true then _ else _
      rw [e1]
      refine iteF ?_
      have eW : H2 W = some (.lst (us.reverse.map wtV ++ [wtV x])) := by rw [← rev_map]; exact S2.w
      refine ⟨_, rfl, R, CR, dx, _, _, rfl, S2.r, KR.cl, KR.n2, rfl, .inl ⟨rfl, _, SqL.of eW⟩, W, _, wtV x, rfl, rfl, eW, last_app _ _, ?_⟩
      have S3 : RdA CR (L2.upd H2 W (.lst (us.reverse.map wtV ++ [wtV x]).dropLast)) R TA W dx la ts2 us n .sign := by
        rw [drop_app]
        exact S2.setW
      exact q.1 ⟨ts2, us, n, .sign⟩ _ rfl (B2.trans .updW) ⟨dx, la, S3⟩
theorem sc_Reader__join : FnScope (["self", "kind"] : List Str) ["self", "kind"] (defScope s_Reader__join) := ⟨rfl, rfl, rfl, by decide +kernel, rfl, by decide +kernel, by decide +kernel⟩
theorem ok_Reader__join {f CR : Addr} {fd : FuncData} (F : FunD K "_join" "Reader._join" (defArgs s_Reader__join) (defBody s_Reader__join) (defScope s_Reader__join) [] [] f fd) (KR : RdK K CR) (mO : ∃ t, mg "MOST_PARTS" = some (.int 40 t)) (o_Reader__fold : OwnM P w K mg base CX0 2 CR "_fold" ["self", "kind"] [] (spFold CR)) : FnOk P w K mg base CX0 3 f fd ["self", "kind"] (spJoin CR) := by
  refine F.ok sc_Reader__join (fun vs H Q E h => ?_) (fun cdv A outer s H vs Q E hr h => ?_)
  · obtain ⟨R, T, W, dx, lt, ts, ws, n, k, rfl, _⟩ := h
    rfl
  · obtain ⟨R, TA, W, dx, lt, ts, ws, n, k, rfl, S, hl, hw, q⟩ := h
    obtain ⟨tO, mO⟩ := mO
    refine ⟨_, PSs.nox (pss_cons (ps_if (pt_cmpR op_gt (pe_op op_add (pe_fld (pv 0) rfl) pe_int) (pe_glob (v := .int 40) rfl mO ⟨_, rfl⟩) (nomark _)) (pss_one (ps_ret pe_bl)) pss_nil)
      (pss_cons (ps_fldaug (pv 0) pe_int in_add)
      (pss_cons (ps_expr (pe_ownM o_Reader__fold (hr.mono (by decide)) pass0 (pv 0) (pa_cons (pv 1) pa_nil)))
      (pss_cons (ps_expr (pe_bm PySem.F.plainAttrs_list PySem.F.slot_list_append PySem.F.type_list_append mt_append (pe_fld (pv 0) rfl) (pa_cons (pv 1) pa_nil)))
      (pss_cons (ps_fld (pv 0) pe_str rfl)
      (pss_one (ps_ret pe_bl))))))) , ?_⟩
    have q : Res CR R TA W H Q (if n + 2 > Xp.most then none else match Xp.fold k.strong ts ws with
      | (ts, ws) => some (Xp.St.mk ts (.op k :: ws) (n + 1) .part)) := q
    refine ⟨_, rfl, R, CR, dx, _, _, rfl, S.r, KR.cl, KR.n3, rfl, _, _, rfl, rfl, _, _, rfl, rfl, _, rfl, ?_⟩
    by_cases g : n + 2 > Xp.most
    · rw [if_pos g] at q
      have : 40 < n + 2 := g
      rw [decide_eq_true (show (40 : Int) < (n : Int) + 2 by omega)]
      refine iteT ?_
      exact q.2 _ rfl RB.refl
    · rw [if_neg g] at q
      have g : ¬ 40 < n + 2 := g
      rw [decide_eq_false (show ¬ (40 : Int) < (n : Int) + 2 by omega)]
      refine iteF ?_
      have S1 := S.setR (m := n + 1) (aw' := .sign)
      obtain ⟨f1, f2⟩ := fold_fit k.strong ws ts hl
      refine ⟨_, rfl, R, CR, dx, _, _, rfl, S.r, KR.cl, KR.n3, rfl, _, _, rfl, rfl, dx, _, S.r, (by show 4 < 1000; decide), ?_⟩
      refine ⟨_, rfl, R, dx, _, rfl, S1.r, rfl, _, rfl, R, TA, W, dx, lt, ts, ws, n + 1, .sign, k, rfl, S1, hl, fun la H2 B2 S2 => ?_⟩
      refine ⟨_, rfl, R, CR, dx, _, _, rfl, S2.r, KR.cl, KR.n2, rfl, .inl ⟨rfl, _, SqL.of S2.w⟩, _, rfl, W, _, _, rfl, rfl, S2.w, by rw [List.length_map, List.length_reverse]; exact line4 (by omega), ?_⟩
      have S3 := S2.appW (x := .op k)
      refine ⟨_, rfl, R, CR, dx, _, rfl, S3.r, KR.cl, KR.n4, (by show 4 < 1000; decide), ?_⟩
      have S4 := S3.setR (m := n + 1) (aw' := .part)
      exact q.1 ⟨_, _, n + 1, .part⟩ _ rfl (((RB.updR.trans B2).trans .updW).trans .updR) ⟨dx, la, S4⟩
theorem sc_Reader__go_on : FnScope (["self", "word"] : List Str) ["self", "word"] (defScope s_Reader__go_on) := ⟨rfl, rfl, rfl, by decide +kernel, rfl, by decide +kernel, by decide +kernel⟩
theorem ok_Reader__go_on {f CR aK : Addr} {fd : FuncData} {es : Array DictEntry} {nd : Nat} (F : FunD K "_go_on" "Reader._go_on" (defArgs s_Reader__go_on) (defBody s_Reader__go_on) (defScope s_Reader__go_on) [] [] f fd) (KR : RdK K CR) (mO : ∃ t, mg "MOST_PARTS" = some (.int 40 t)) (mK : mg "KINDS" = some (.ref aK)) (DK : KDict K w aK es nd) (hK : KindsF K aK) (o_Reader__close : OwnM P w K mg base CX0 3 CR "_close" ["self"] [] (spClose CR)) (o_Reader__join : OwnM P w K mg base CX0 3 CR "_join" ["self", "kind"] [] (spJoin CR)) : FnOk P w K mg base CX0 4 f fd ["self", "word"] (spTk CR (· = .sign)) := by
  refine F.ok sc_Reader__go_on (fun vs H Q E h => ?_) (fun cdv A outer s H vs Q E hr h => ?_)
  · obtain ⟨R, T, W, dx, lt, ts, ws, n, aw, y, rfl, _⟩ := h
    rfl
  · obtain ⟨R, TA, W, dx, lt, ts, ws, n, aw, y, rfl, ly, S, hl, hw, rfl, q⟩ := h
    obtain ⟨tO, mO⟩ := mO
    have hl : ts.length = ops ws + 1 := hl
    refine ⟨_, PSs.nox (pss_cons (ps_if (pt_cmpR op_eq (pv 1) pe_str (nomark _)) (pss_one (ps_ret (pe_ownM0 o_Reader__close (hr.mono (by decide)) pass0 (pv 0)))) pss_nil)
      (pss_cons (ps_if (pt_cmpR (op_in_kd DK) (pv 1) (pe_glob (v := .ref aK) rfl mK rfl) (by rfl)) (pss_one (ps_ret (pe_ownM o_Reader__join (hr.mono (by decide)) pass0 (pv 0) (pa_cons (pe_ix ix_kdict (pe_glob (v := .ref aK) rfl mK rfl) (pv 1) (fun _ _ => rfl)) pa_nil)))) pss_nil)
      (pss_cons (ps_if (PW.pt (pw_or (pt_cmpR op_notIn_seq (pv 1) (pe_tup (pa_cons pe_str (pa_cons pe_str pa_nil))) (by rfl)) (pw_or1 (pt_cmpR op_eq (pe_fld (pv 0) rfl) (pe_glob (v := .int 40) rfl mO ⟨_, rfl⟩) (nomark _))))) (pss_one (ps_ret pe_bl)) pss_nil)
      (pss_cons (ps_fldaug (pv 0) pe_int in_add)
      (pss_cons (ps_if (pt_cmpR op_eq (pv 1) pe_str (nomark _)) (pss_one (ps_fld (pv 0) pe_str rfl)) (pss_one (ps_asg (pe_tup (pa_cons pe_str (pa_cons (pe_ix ix_list (pe_fld (pv 0) rfl) (pe_un un_neg pe_int) (fun _ _ => rfl)) pa_nil))) (pg_sub (pe_fld (pv 0) rfl) (pe_un un_neg pe_int) set_list))))
      (pss_one (ps_ret pe_bl))))))) , ?_⟩
    refine ⟨_, rfl, rfl, _, rfl, ?_⟩
    rw [show (Str.ofString ")") = (⟨#[41]⟩ : Str) from rfl, str_one]
    by_cases h1 : TL.tl y = [41]
    · rw [decide_eq_true h1]
      refine iteT ?_
      rw [h1] at q
      exact ⟨_, rfl, R, dx, _, rfl, S.r, rfl, R, TA, W, dx, lt, ts, ws, n, rfl, S, hl, q⟩
    · rw [decide_eq_false h1]
      refine iteF ?_
      by_cases h2 : ∃ k, TL.tl y = opL k
      · obtain ⟨k, h2⟩ := h2
        obtain rfl : y = ⟨(opL k).toArray⟩ := TL.ext_tl h2
        obtain ⟨u, e, ru⟩ := hK.some_ k
        have q2 : Res CR R TA W H Q (Xp.take ⟨ts, ws, n, .sign⟩ (.op k)) := by
          rw [h2] at q
          cases k <;> exact q
        exact ⟨_, rfl, _, some u, rfl, rfl, e, _, rfl, iteT ⟨_, rfl, R, dx, _, rfl, S.r, rfl, _, rfl, aK, _, V.str (opS k), rfl, rfl, ⟨es, nd, u, DK.at_, DK.lit, e, ru⟩, R, TA, W, dx, lt, ts, ws, n, k, rfl, S, hl, hw, q2⟩⟩
      · have h2 : ∀ k, TL.tl y ≠ opL k := fun k z => h2 ⟨k, z⟩
        refine ⟨_, rfl, y, none, rfl, rfl, hK.none_ y h2, _, rfl, iteF ?_⟩
        refine ⟨_, rfl, (by show 2 ≤ sizeLine; decide), fun p hp => ⟨p, _, rfl, .inr (.inl (.inl upd_same)), rfl, rfl, _, rfl, ?_⟩⟩
        have S1 := S.same (same_upd (o := .tup [.str "^", .str "'"]) hp)
        have B1 : RB R TA W H _ := RB.same (same_upd (o := .tup [.str "^", .str "'"]) hp)
        show if (!inV (V.str y) [.str "^", .str "'"]) = true then _ else _
        generalize L2.upd H p (.tup [.str "^", .str "'"]) = H1 at *
        rw [show ([.str "^", .str "'"] : List V) = [.str ⟨#[94]⟩, .str ⟨#[39]⟩] from rfl, inV_two]
        have full : ∀ (G : Bool → Hp → Prop), (n = 40 → G true H1) → (n ≠ 40 → G false H1) → tTest (tOp rEq (tFld K (tVar 0) "_parts") (tC (V.int 40))) [some (V.ref R), some (V.str y)] H1 G := fun G g1 g2 => by
          refine ⟨_, rfl, R, CR, dx, _, _, rfl, S1.r, KR.cl, KR.n3, rfl, rfl, _, rfl, ?_⟩
          by_cases h : n = 40
          · rw [h]
            exact g1 h
          · rw [decide_eq_false (fun z => h (by have := V.int.inj z; omega))]
            exact g2 h
        by_cases h3 : TL.tl y = [94]
        · rw [decide_eq_true h3]
          refine iteF (full _ (fun h => ?_) fun h => ?_)
          · refine iteT (q.2 _ ?_ B1)
            rw [h3]
            exact if_pos h
          · refine iteF ?_
            have et : tkS ⟨ts, ws, n, .sign⟩ (TL.tl y) = some ⟨ts, ws, n + 1, .ex⟩ := by
              rw [h3]
              exact if_neg h
            have S2 := S1.setR (m := n + 1) (aw' := .sign)
            refine ⟨_, rfl, R, CR, dx, _, _, rfl, S1.r, KR.cl, KR.n3, rfl, _, _, rfl, rfl, dx, _, S1.r, (by show 4 < 1000; decide), ?_⟩
            refine ⟨_, rfl, rfl, _, rfl, ?_⟩
            rw [show (Str.ofString "^") = (⟨#[94]⟩ : Str) from rfl, str_one, decide_eq_true h3]
            refine iteT ?_
            refine ⟨_, rfl, R, CR, dx, _, rfl, S2.r, KR.cl, KR.n4, (by show 4 < 1000; decide), ?_⟩
            have S3 := S2.setR (m := n + 1) (aw' := .ex)
            exact q.1 _ _ et ((B1.trans .updR).trans .updR) ⟨dx, lt, S3⟩
        · by_cases h4 : TL.tl y = [39]
          · rw [decide_eq_true h4, Bool.or_true]
            refine iteF (full _ (fun h => ?_) fun h => ?_)
            · refine iteT (q.2 _ ?_ B1)
              rw [h4]
              exact if_pos h
            · refine iteF ?_
              obtain ⟨t, tr, rfl⟩ : ∃ t tr, ts = t :: tr := by
                cases ts with
                | nil =>
                  have : 0 = ops ws + 1 := hl
                  omega
                | cons t tr => exact ⟨t, tr, rfl⟩
              have et : tkS ⟨t :: tr, ws, n, .sign⟩ (TL.tl y) = some ⟨.turned t :: tr, ws, n + 1, .sign⟩ := by
                rw [h4]
                exact if_neg h
              have S2 := S1.setR (m := n + 1) (aw' := .sign)
              refine ⟨_, rfl, R, CR, dx, _, _, rfl, S1.r, KR.cl, KR.n3, rfl, _, _, rfl, rfl, dx, _, S1.r, (by show 4 < 1000; decide), ?_⟩
              refine ⟨_, rfl, rfl, _, rfl, ?_⟩
              rw [show (Str.ofString "^") = (⟨#[94]⟩ : Str) from rfl, str_one, decide_eq_false h3]
              refine iteF ?_
              obtain ⟨a, la, rfl, xa, xr⟩ := S2.x.one
              have eT2 := S2.t
              rw [rev_map] at eT2
              refine ⟨_, rfl, R, CR, dx, _, _, rfl, S2.r, KR.cl, KR.n1, rfl, _, rfl, TA, _, -1, .ref a, rfl, rfl, SqL.of eT2, atI_last _ _, (by show 2 ≤ sizeLine; decide), fun p hp => ?_⟩
              have S3 := S2.same (same_upd (o := .tup [.str "turned", .ref a]) hp)
              have eT3 := S3.t
              rw [rev_map] at eT3
              refine ⟨_, rfl, R, CR, dx, _, _, rfl, S3.r, KR.cl, KR.n1, rfl, _, rfl, TA, _, -1, _, rfl, rfl, eT3, ixN_last _ _, ?_⟩
              have S4 := S3.setT (la := p :: la) (tr := .turned t :: tr) ⟨⟨a, upd_same, S3.x.1⟩, S3.x.2⟩
              rw [rev_map, ← set_app _ (V.ref a)] at S4
              exact q.1 _ _ et (((B1.trans .updR).trans (.same (same_upd hp))).trans .updT) ⟨dx, _, S4⟩
          · rw [decide_eq_false h3, decide_eq_false h4]
            refine iteT (iteT ?_)
            exact q.2 _ (sign_none h1 h2 h3 h4) B1
theorem sc_Reader__exponent : FnScope (["self", "word", "exponent"] : List Str) ["self", "word"] (defScope s_Reader__exponent) := ⟨rfl, rfl, rfl, by decide +kernel, rfl, by decide +kernel, by decide +kernel⟩
theorem ok_Reader__exponent {f CR : Addr} {fd : FuncData} (F : FunD K "_exponent" "Reader._exponent" (defArgs s_Reader__exponent) (defBody s_Reader__exponent) (defScope s_Reader__exponent) [] [] f fd) (KR : RdK K CR) (T : Fre mg) (mF : ∃ t, mg "MOST_FIGURES" = some (.int 6 t)) (o_is_figures : Own P w K mg base CX0 1 "is_figures" ["word", "most"] [] spFigB) : FnOk P w K mg base CX0 2 f fd ["self", "word"] (spTk CR (fun a => a = .ex ∨ a = .less)) := by
  refine F.ok sc_Reader__exponent (fun vs H Q E h => ?_) (fun cdv A outer s H vs Q E hr h => ?_)
  · obtain ⟨R, T, W, dx, lt, ts, ws, n, aw, y, rfl, _⟩ := h
    rfl
  · obtain ⟨R, TA, W, dx, lt, ts, ws, n, aw, y, rfl, ly, S, hl, hw, ha, q⟩ := h
    obtain ⟨tF, mF⟩ := mF
    have hl : ts.length = ops ws + 1 := by rcases ha with rfl | rfl <;> exact hl
    refine ⟨_, PSs.nox (C8.pss_cut (ps_if (PW.pt (pw_and (pt_cmpR op_eq (pv 1) pe_str (nomark _)) (pw_and1 (pt_cmpR op_eq (pe_fld (pv 0) rfl) pe_str (nomark _))))) (pss_cons (ps_fld (pv 0) pe_str rfl)
      (pss_one (ps_ret pe_bl))) pss_nil)
      (pss_cons (ps_if (pt_not (pt_val (pe_own o_is_figures (hr.mono (by decide)) rfl pass0 (pa_cons (pv 1) (pa_cons (pe_glob (v := .int 6) rfl mF ⟨_, rfl⟩) pa_nil))))) (pss_one (ps_ret pe_bl)) pss_nil)
      (C8.pss_cut (ps_set (i := 2) sc_Reader__exponent.nd rfl (Or.inl rfl) (pe_ifExp (pt_cmpR op_eq (pe_fld (pv 0) rfl) pe_str (nomark _)) (pe_callTy call_int_str (by rfl) T.f_int (by decide +kernel) (pa_cons (pv 1) pa_nil)) (pe_un un_neg (pe_callTy call_int_str (by rfl) T.f_int (by decide +kernel) (pa_cons (pv 1) pa_nil)))))
      (pss_cons (ps_asg (pe_tup (pa_cons pe_str (pa_cons (pe_ix ix_list (pe_fld (pv 0) rfl) (pe_un un_neg pe_int) (fun _ _ => rfl)) (pa_cons (pv 2) pa_nil)))) (pg_sub (pe_fld (pv 0) rfl) (pe_un un_neg pe_int) set_list))
      (pss_cons (ps_fld (pv 0) pe_str rfl)
      (pss_one (ps_ret pe_bl))))))) , ?_⟩
    have aE : decide (V.str (awS aw) = V.str "exponent") = isEx aw := by
      rcases ha with rfl | rfl
      · exact decide_eq_true rfl
      · exact decide_eq_false (by intro z; have := V.str.inj z; revert this; decide)
    have full : ∀ (G : Bool → Hp → Prop) (x : Option V), G (isEx aw) H → tTest (tOp rEq (tFld K (tVar 0) "_awaited") (tC (V.str "exponent"))) [some (V.ref R), some (V.str y), x] H G := fun G x g => by
      refine ⟨_, rfl, R, CR, dx, _, _, rfl, S.r, KR.cl, KR.n4, rfl, rfl, _, rfl, ?_⟩
      rw [aE]
      exact g
    refine ⟨fun σ' H' => σ' = [some (.ref R), some (.str y), none] ∧ H' = H ∧ (aw = .ex → TL.tl y ≠ [45]), ?_, ?_⟩
    · refine ⟨_, rfl, rfl, _, rfl, ?_⟩
      rw [show (Str.ofString "-") = (⟨#[45]⟩ : Str) from rfl, str_one]
      by_cases h1 : TL.tl y = [45]
      · rw [decide_eq_true h1]
        refine iteT (full _ _ ?_)
        rcases ha with rfl | rfl
        · refine iteT ?_
          refine ⟨_, rfl, R, CR, dx, _, rfl, S.r, KR.cl, KR.n4, (by show 4 < 1000; decide), ?_⟩
          have S3 := S.setR (m := n) (aw' := .less)
          exact q.1 ⟨ts, ws, n, .less⟩ _ (by rw [h1]; rfl) RB.updR ⟨dx, lt, S3⟩
        · exact iteF ⟨rfl, rfl, fun z => by cases z⟩
      · rw [decide_eq_false h1]
        exact iteF (iteF ⟨rfl, rfl, fun _ => h1⟩)
    · rintro σ' H' ⟨rfl, rfl, hx⟩
      refine ⟨_, rfl, y, 6, rfl, ly, _, rfl, ?_⟩
      cases hf : figB 6 (TL.tl y) with
      | false =>
        refine iteT ?_
        exact q.2 _ (ex_none ha hx hf) RB.refl
      | true =>
        refine iteF ?_
        obtain ⟨f1, f2⟩ := fig_val hf
        obtain ⟨t, tr, rfl⟩ : ∃ t tr, ts = t :: tr := by
          cases ts with
          | nil =>
            have : 0 = ops ws + 1 := hl
            omega
          | cons t tr => exact ⟨t, tr, rfl⟩
        obtain ⟨a, la, rfl, xa, xr⟩ := S.x.one
        generalize hv : NumText.digitsVal (TL.tl y) = v at f1
        obtain ⟨e, he⟩ : ∃ e : Int, e = (if isEx aw = true then (v : Int) else -(v : Int)) := ⟨_, rfl⟩
        have et : tkS ⟨t :: tr, ws, n, aw⟩ (TL.tl y) = some ⟨.power t e :: tr, ws, n, .sign⟩ := by
          unfold tkS
          rw [fig_tk (fig_name hf) hf, hv]
          rcases ha with rfl | rfl
          · rw [he]
            rfl
          · rw [he]
            rfl
        refine ⟨fun σ' H2 => σ' = [some (.ref R), some (.str y), some (.int e)] ∧ H2 = H', full _ _ ?_, ?_⟩
        · cases hx2 : isEx aw with
          | true =>
            rw [hx2] at he
            refine iteT ⟨_, rfl, y, _, rfl, f1, by omega, ?_⟩
            rw [he]
            exact ⟨rfl, rfl⟩
          | false =>
            rw [hx2] at he
            refine iteF ⟨_, rfl, y, _, rfl, f1, by omega, _, rfl, ?_⟩
            rw [he]
            exact ⟨rfl, rfl⟩
        · rintro σ' H2 ⟨rfl, rfl⟩
          have eT2 := S.t
          rw [rev_map] at eT2
          refine ⟨_, rfl, R, CR, dx, _, _, rfl, S.r, KR.cl, KR.n1, rfl, _, rfl, TA, _, -1, .ref a, rfl, rfl, SqL.of eT2, atI_last _ _, _, rfl, (by show 3 ≤ sizeLine; decide), fun p hp => ?_⟩
          have S3 := S.same (same_upd (o := .tup [.str "power", .ref a, .int e]) hp)
          have eT3 := S3.t
          rw [rev_map] at eT3
          refine ⟨_, rfl, R, CR, dx, _, _, rfl, S3.r, KR.cl, KR.n1, rfl, _, rfl, TA, _, -1, _, rfl, rfl, eT3, ixN_last _ _, ?_⟩
          have S4 := S3.setT (la := p :: la) (tr := .power t e :: tr) ⟨⟨a, upd_same, S3.x.1⟩, S3.x.2⟩
          rw [rev_map, ← set_app _ (V.ref a)] at S4
          refine ⟨_, rfl, R, CR, dx, _, rfl, S4.r, KR.cl, KR.n4, (by show 4 < 1000; decide), ?_⟩
          have S5 := S4.setR (m := n) (aw' := .sign)
          exact q.1 _ _ et (((RB.same (same_upd hp)).trans .updT).trans .updR) ⟨dx, _, S5⟩
theorem sc_Reader_take : FnScope (["self", "word"] : List Str) ["self", "word"] (defScope s_Reader_take) := ⟨rfl, rfl, rfl, by decide +kernel, rfl, by decide +kernel, by decide +kernel⟩
theorem ok_Reader_take {f CR : Addr} {fd : FuncData} (F : FunD K "take" "Reader.take" (defArgs s_Reader_take) (defBody s_Reader_take) (defScope s_Reader_take) [] [] f fd) (KR : RdK K CR) (o_Reader__begin : OwnM P w K mg base CX0 2 CR "_begin" ["self", "word"] [] (spTk CR (· = .part))) (o_Reader__go_on : OwnM P w K mg base CX0 4 CR "_go_on" ["self", "word"] [] (spTk CR (· = .sign))) (o_Reader__exponent : OwnM P w K mg base CX0 2 CR "_exponent" ["self", "word"] [] (spTk CR (fun a => a = .ex ∨ a = .less))) : FnOk P w K mg base CX0 5 f fd ["self", "word"] (spTk CR (fun _ => True)) := by
  refine F.ok sc_Reader_take (fun vs H Q E h => ?_) (fun cdv A outer s H vs Q E hr h => ?_)
  · obtain ⟨R, T, W, dx, lt, ts, ws, n, aw, y, rfl, _⟩ := h
    rfl
  · obtain ⟨R, TA, W, dx, lt, ts, ws, n, aw, y, rfl, ly, S, hl, hw, _, q⟩ := h
    refine ⟨_, PSs.nox (pss_cons (ps_if (pt_cmpR op_eq (pe_fld (pv 0) rfl) pe_str (nomark _)) (pss_one (ps_ret (pe_ownM o_Reader__begin (hr.mono (by decide)) pass0 (pv 0) (pa_cons (pv 1) pa_nil)))) pss_nil)
      (pss_cons (ps_if (pt_cmpR op_eq (pe_fld (pv 0) rfl) pe_str (nomark _)) (pss_one (ps_ret (pe_ownM o_Reader__go_on (hr.mono (by decide)) pass0 (pv 0) (pa_cons (pv 1) pa_nil)))) pss_nil)
      (pss_one (ps_ret (pe_ownM o_Reader__exponent (hr.mono (by decide)) pass0 (pv 0) (pa_cons (pv 1) pa_nil)))))) , ?_⟩
    have full : ∀ (G : Bool → Hp → Prop) (z : Str), G (decide (V.str (awS aw) = V.str z)) H → tTest (tOp rEq (tFld K (tVar 0) "_awaited") (tC (V.str z))) [some (V.ref R), some (V.str y)] H G := fun G z g =>
      ⟨_, rfl, R, CR, dx, _, _, rfl, S.r, KR.cl, KR.n4, rfl, rfl, _, rfl, g⟩
    refine full _ _ ?_
    cases aw with
    | part =>
      rw [show decide (V.str (awS .part) = V.str "part") = true from decide_eq_true rfl]
      exact iteT ⟨_, rfl, R, dx, _, rfl, S.r, rfl, _, rfl, R, TA, W, dx, lt, ts, ws, n, .part, y, rfl, ly, S, hl, hw, rfl, q⟩
    | sign =>
      rw [show decide (V.str (awS .sign) = V.str "part") = false from decide_eq_false (by intro z; have := V.str.inj z; revert this; decide)]
      refine iteF (full _ _ ?_)
      rw [show decide (V.str (awS .sign) = V.str "sign") = true from decide_eq_true rfl]
      exact iteT ⟨_, rfl, R, dx, _, rfl, S.r, rfl, _, rfl, R, TA, W, dx, lt, ts, ws, n, .sign, y, rfl, ly, S, hl, hw, rfl, q⟩
    | ex =>
      rw [show decide (V.str (awS .ex) = V.str "part") = false from decide_eq_false (by intro z; have := V.str.inj z; revert this; decide)]
      refine iteF (full _ _ ?_)
      rw [show decide (V.str (awS .ex) = V.str "sign") = false from decide_eq_false (by intro z; have := V.str.inj z; revert this; decide)]
      exact iteF ⟨_, rfl, R, dx, _, rfl, S.r, rfl, _, rfl, R, TA, W, dx, lt, ts, ws, n, .ex, y, rfl, ly, S, hl, hw, .inl rfl, q⟩
    | less =>
      rw [show decide (V.str (awS .less) = V.str "part") = false from decide_eq_false (by intro z; have := V.str.inj z; revert this; decide)]
      refine iteF (full _ _ ?_)
      rw [show decide (V.str (awS .less) = V.str "sign") = false from decide_eq_false (by intro z; have := V.str.inj z; revert this; decide)]
      exact iteF ⟨_, rfl, R, dx, _, rfl, S.r, rfl, _, rfl, R, TA, W, dx, lt, ts, ws, n, .less, y, rfl, ly, S, hl, hw, .inr rfl, q⟩
theorem sc_Reader_ended : FnScope (["self"] : List Str) ["self"] (defScope s_Reader_ended) := ⟨rfl, rfl, rfl, by decide +kernel, rfl, by decide +kernel, by decide +kernel⟩
theorem ok_Reader_ended {f CR : Addr} {fd : FuncData} (F : FunD K "ended" "Reader.ended" (defArgs s_Reader_ended) (defBody s_Reader_ended) (defScope s_Reader_ended) [] [] f fd) (KR : RdK K CR) (o_Reader__fold : OwnM P w K mg base CX0 2 CR "_fold" ["self", "kind"] [] (spFold CR)) : FnOk P w K mg base CX0 3 f fd ["self"] (spEnded CR) := by
  refine F.ok sc_Reader_ended (fun vs H Q E h => ?_) (fun cdv A outer s H vs Q E hr h => ?_)
  · obtain ⟨R, T, W, dx, lt, ts, ws, n, aw, rfl, _⟩ := h
    rfl
  · obtain ⟨R, TA, W, dx, lt, ts, ws, n, aw, rfl, S, hl, q1, q2⟩ := h
    refine ⟨_, PSs.nox (pss_cons (ps_if (pt_cmpR op_ne (pe_fld (pv 0) rfl) pe_str (nomark _)) (pss_one (ps_ret pe_non)) pss_nil)
      (pss_cons (ps_expr (pe_ownM o_Reader__fold (hr.mono (by decide)) pass0 (pv 0) (pa_cons pe_str pa_nil)))
      (pss_one (ps_ret (pe_ifExp (pt_truth (pe_fld (pv 0) rfl) (by intro _; rfl)) pe_non (pe_ix ix_list (pe_fld (pv 0) rfl) pe_int (fun _ _ => rfl))))))) , ?_⟩
    refine ⟨_, rfl, R, CR, dx, _, _, rfl, S.r, KR.cl, KR.n4, rfl, rfl, _, rfl, ?_⟩
    show if (!decide (V.str (awS aw) = V.str "sign")) = true then _ else _
    by_cases ha : aw = .sign
    · subst ha
      rw [show decide (V.str (awS .sign) = V.str "sign") = true from decide_eq_true rfl]
      refine iteF ?_
      have hl : ts.length = ops ws + 1 := hl
      refine ⟨_, rfl, R, dx, _, rfl, S.r, rfl, R, TA, W, dx, lt, ts, ws, n, .sign, .plus, rfl, S, hl, fun la H2 B2 S2 => ?_⟩
      refine ⟨_, rfl, R, CR, dx, _, _, rfl, S2.r, KR.cl, KR.n2, rfl, _, .inl ⟨_, SqL.of S2.w, rfl⟩, ?_⟩
      have S2 : RdA CR H2 R TA W dx la (Xp.fold false ts ws).1 (Xp.fold false ts ws).2 n .sign := S2
      obtain ⟨f1, f2⟩ := fold_fit false ws ts hl
      have q1 : ∀ t a H', (match Xp.fold false ts ws with
        | (t :: _, []) => some t
        | _ => none) = some t → RB R TA W H H' → TreeAt H' a t → Q (.ref a) H' := q1
      have q2 : ∀ H', (match Xp.fold false ts ws with
        | (t :: _, []) => some t
        | _ => none) = none → RB R TA W H H' → Q .non H' := q2
      show if (!(((Xp.fold false ts ws).2.reverse.map wtV).isEmpty)) = true then _ else _
      revert q1 q2 S2 f1
      generalize Xp.fold false ts ws = z
      obtain ⟨ts2, ws2⟩ := z
      intro S2 f1 q1 q2
      cases ws2 with
      | nil =>
        refine iteF ?_
        have f1 : ts2.length = 1 := f1
        obtain ⟨t, rfl⟩ : ∃ t, ts2 = [t] := by
          match ts2, f1 with
          | [t], _ => exact ⟨t, rfl⟩
        obtain ⟨a, l0, rfl, xa, xr⟩ := S2.x.one
        obtain rfl : l0 = [] := by
          cases l0 with
          | nil => rfl
          | cons => exact xr.elim
        exact ⟨_, rfl, R, CR, dx, _, _, rfl, S2.r, KR.cl, KR.n1, rfl, TA, _, 0, .ref a, rfl, rfl, SqL.of S2.t, atI_nat (j := 0) rfl, q1 t a H2 rfl B2 xa⟩
      | cons x us =>
        have e1 : (!(((x :: us).reverse.map wtV).isEmpty)) = true := by rw [rev_map]; simp
        show if (!(((x :: us).reverse.map wtV).isEmpty)) = true then _ else _
        rw [e1]
        refine iteT ?_
        refine q2 H2 ?_ B2
        cases ts2 <;> rfl
    · have e1 : decide (V.str (awS aw) = V.str "sign") = false := by
        cases aw with
        | sign => exact absurd rfl ha
        | _ => exact decide_eq_false (by intro z; have := V.str.inj z; revert this; decide)
      rw [e1]
      refine iteT ?_
      refine q2 H ?_ RB.refl
      cases aw with
      | sign => exact absurd rfl ha
      | _ => rfl
end
end Xk
end
section
set_option Elab.async false
set_option linter.all false
set_option maxRecDepth 100000
set_option maxHeartbeats 4000000
namespace Xk
open PySem PySem.Spec PyProof.Rows L2 Xh LamX NdefX
/-! ### a text read -/
open Xp (Tr Op Wt Tk Aw)
def ExF (H : Hp) (E : XK) (C : Addr) (nm f : Str) (y : V) : Prop := ∀ (d : Addr) (H' : Hp), Same H H' → H' d = some (.xd [(f, y), ("word", .str nm)]) → H d = none → E (.ref C) (some d) H'
theorem ExF.same {H H1 : Hp} {E : XK} {C : Addr} {nm f : Str} {y : V} (x : ExF H E C nm f y) (s : Same H H1) : ExF H1 E C nm f y := fun d H' a b c => x d H' (s.trans a) b (s.free c)
theorem pe_ownC0 {X : Cx} {CX : CXT} {k : Nat} {C : Addr} {x : Str} {ps : List Str} {dvs : List V} {sp : Sp} {E : XK} {p pos : Pos} (O : OwnC X.prog X.w X.K X.mg X.base CX k x C ps dvs sp) (hr : Room (k + 1) X.A) (hg : Gl X x) (hx : Passes CX X E) (hdb : (x == ("__debug__" : Str)) = false := by decide) : PE X (.Call (.Name x p) [] [] pos) (tMake C sp dvs E tNil) := by
  obtain ⟨f, fd, ds, F, M, c, b, r⟩ := O.ex
  exact pe_make0 M F hr hg c b r hx hdb
def goW : List (Nat × List Nat) → Xp.St → Nat ⊕ Xp.St
  | [], s => .inr s
  | q :: r, s => match tkS s q.2 with
    | none => .inl q.1
    | some s' => goW r s'
theorem goW_none {q : Nat × List Nat} {r : List (Nat × List Nat)} {s : Xp.St} (h : tkS s q.2 = none) : goW (q :: r) s = .inl q.1 := by
  rw [goW, h]
theorem goW_some {q : Nat × List Nat} {r : List (Nat × List Nat)} {s s' : Xp.St} (h : tkS s q.2 = some s') : goW (q :: r) s = goW r s' := by
  rw [goW, h]
/-- a text as it is read: its tree, or the place of a fault -/
def readT (l : List Nat) : Nat ⊕ Tr := match goW (Xp.wsP 0 [] l) ⟨[], [], 0, .part⟩ with
  | .inl k => .inl k
  | .inr s => match endS s with
    | some t => .inr t
    | none => .inl l.length
def spRead (CT : Addr) : Sp := fun vs H Q E => ∃ y : Str, vs = [.str y] ∧ y.length ≤ 5000 ∧ (∀ t a H', readT (TL.tl y) = .inr t → Same H H' → TreeAt H' a t → Q (.ref a) H') ∧ ∀ k, readT (TL.tl y) = .inl k → ExF H E CT "BadText" "at" (.int (k : Int))
theorem wsP_len : ∀ (t : List Nat) (k : Nat) (acc : List Nat), ∀ q ∈ Xp.wsP k acc t, q.2.length ≤ acc.length + t.length
  | [], k, acc, q, h => by
    have h : q ∈ (if acc = [] then [] else [(k - acc.length, acc)]) := h
    by_cases g : acc = []
    · rw [if_pos g] at h
      cases h
    · rw [if_neg g] at h
      rw [List.mem_singleton.mp h]
      exact Nat.le_add_right _ _
  | c :: r, k, acc, q, h => by
    rw [Xp.wsP] at h
    by_cases g : Xp.wordly c = true
    · rw [if_pos g] at h
      have := wsP_len r (k + 1) (acc ++ [c]) q h
      rw [List.length_append, List.length_singleton] at this
      rw [List.length_cons]
      omega
    · rw [if_neg g] at h
      rcases List.mem_append.mp h with h | h
      · have h : q ∈ (if acc = [] then [] else [(k - acc.length, acc)]) := h
        by_cases g : acc = []
        · rw [if_pos g] at h
          cases h
        · rw [if_neg g] at h
          rw [List.mem_singleton.mp h]
          exact Nat.le_add_right _ _
      · rcases List.mem_append.mp h with h | h
        · by_cases g : c = 32
          · rw [if_pos g] at h
            cases h
          · rw [if_neg g] at h
            rw [List.mem_singleton.mp h]
            show 1 ≤ acc.length + (r.length + 1)
            omega
        · have := wsP_len r (k + 1) [] q h
          rw [List.length_nil] at this
          rw [List.length_cons]
          omega
theorem PW.get {H : Hp} : ∀ (la : List Addr) (ws : List (Nat × List Nat)) (i : Nat) (a : Addr), PW H la ws → la[i]? = some a → ∃ (q : Nat × List Nat) (s : Str), ws[i]? = some q ∧ H a = some (.tup [.int (q.1 : Int), .str s]) ∧ TL.tl s = q.2
  | _ :: _, q :: _, 0, _, h, e => by
    cases e
    obtain ⟨⟨s, h1, h2⟩, _⟩ := h
    exact ⟨q, s, rfl, h1, h2⟩
  | _ :: la, _ :: ws, i + 1, a, h, e => PW.get la ws i a h.2 e
  | [], [], _, _, _, e => by cases e
  | [], _ :: _, _, _, h, _ => h.elim
  | _ :: _, [], _, _, h, _ => h.elim
theorem tkS_fit {s s' : Xp.St} {w : List Nat} (f : Fit s) (h : tkS s w = some s') : Fit s' ∧ s'.ws.length ≤ s.ws.length + 1 := by
  unfold tkS at h
  cases e : tkOf w with
  | none =>
    rw [e] at h
    cases h
  | some x =>
    rw [e] at h
    have := take_fit f (x := x) h
    exact ⟨this.1, this.2.1⟩
section
variable {P : Program} {w : World} {K : PySem.W.Frag} {mg : Str → Option Value} {base : Heap}
theorem sc_read : FnScope (["text", "reader", "at", "word", "tree"] : List Str) ["text"] (defScope s_read) := ⟨rfl, rfl, rfl, by decide +kernel, rfl, by decide +kernel, by decide +kernel⟩
theorem ok_read {f fT CR CT : Addr} {fd fdT : FuncData} (F : FunD K "read" "read" (defArgs s_read) (defBody s_read) (defScope s_read) [] [] f fd) (T : Fre mg) (d_Reader : OwnC P w K mg base CX0 1 "Reader" CR ["self"] [] (spRInit CR)) (o_words_of : Own P w K mg base CX0 2 "words_of" ["text"] [] spWordsOf) (o_Reader_take : OwnM P w K mg base CX0 5 CR "take" ["self", "word"] [] (spTk CR (fun _ => True))) (o_Reader_ended : OwnM P w K mg base CX0 3 CR "ended" ["self"] [] (spEnded CR))
    (xT : RXF K mg CT fT "BadText" "at") (fI_BadText : FnOk P w K mg base (L2.CX P w) 2 fT fdT ["self", "at"] (spFI K "at")) (bI_BadText : Binds K fdT ["self", "at"] []) : FnOk P w K mg base (L2.CX P w) 6 f fd ["text"] (spRead CT) := by
  refine F.ok sc_read (fun vs H Q E h => ?_) (fun cdv A outer s H vs Q E hr h => ?_)
  · obtain ⟨y, rfl, _⟩ := h
    rfl
  · obtain ⟨y, rfl, ly, kg, kb⟩ := h
    refine ⟨_, (pss_cons (ps_set (i := 1) sc_read.nd rfl (Or.inl rfl) (pe_ownC0 d_Reader (hr.mono (by decide)) rfl pass0))
      (pss_cons (ps_for (passes_of rfl) rfl (pi_list (pe_own o_words_of (hr.mono (by decide)) rfl pass0 (pa_cons (pv 0) pa_nil))) (pg_tup rfl (pgs_cons (pg_name (i := 2) sc_read.nd rfl (Or.inl rfl)) (pgs_cons (pg_name (i := 3) sc_read.nd rfl (Or.inl rfl)) pgs_nil))) (pss_one (ps_if (pt_not (pt_val (pe_ownM o_Reader_take (hr.mono (by decide)) pass0 (pv 1) (pa_cons (pv 3) pa_nil)))) (pss_one (ps_raise rfl (takes_of rfl rfl rfl rfl) (pmk_field xT fI_BadText (hr.mono (by decide)) bI_BadText rfl (pa_cons (pv 2) pa_nil)))) pss_nil)))
      (pss_cons (ps_set (i := 4) sc_read.nd rfl (Or.inl rfl) (pe_ownM0 o_Reader_ended (hr.mono (by decide)) pass0 (pv 1)))
      (pss_cons (ps_if (pt_cmpR op_isN (pv 4) pe_non (nomark _)) (pss_one (ps_raise rfl (takes_of rfl rfl rfl rfl) (pmk_field xT fI_BadText (hr.mono (by decide)) bI_BadText rfl (pa_cons (pe_callB call_len_str (by rfl) T.f_len PySem.boot_len (pa_cons (pv 0) pa_nil)) pa_nil)))) pss_nil)
      (pss_one (ps_ret (pv 4))))))) , ?_⟩
    have lt : y.length = (TL.tl y).length := TL.len_tl y
    refine fun R dx0 hR hdx hne => ⟨R, dx0, rfl, upd_same, fun TA W H2 k2 hT hW S2 => ⟨rfl, ?_⟩⟩
    have fr : ∀ {b : Addr}, L2.upd (L2.upd H dx0 (.own R)) R (.ins CR dx0 []) b = none → b ≠ R ∧ H b = none := fun {b} hb => by
      have n1 : b ≠ R := fun z => by rw [z, upd_same] at hb; cases hb
      rw [upd_ne n1] at hb
      have n2 : b ≠ dx0 := fun z => by rw [z, upd_same] at hb; cases hb
      rw [upd_ne n2] at hb
      exact ⟨n1, hb⟩
    obtain ⟨nTR, hT0⟩ := fr hT
    obtain ⟨nWR, hW0⟩ := fr hW
    have s2 : Same H H2 := fun b o e => k2 b o (ne_of_none e hR) (by rw [upd_ne (ne_of_none e hR), upd_ne (ne_of_none e hdx)]; exact e)
    have fin : ∀ {H' : Hp}, RB R TA W H2 H' → Same H H' := fun {H'} B b o e => B b o (ne_of_none e hR) (ne_of_none e hT0) (ne_of_none e hW0) (s2 b o e)
    obtain ⟨dx, lt0, A2⟩ := S2
    refine ⟨_, rfl, y, rfl, ly, fun D la H3 s3 hD lla eD pw => ⟨D, rfl, ⟨_, SqL.of eD⟩, ?_⟩⟩
    have A3 := A2.same s3
    have nDR : D ≠ R := fun z => by rw [z, A3.r] at eD; cases eD
    have nDT : D ≠ TA := (ne_of_none A2.t hD).symm
    have nDW : D ≠ W := (ne_of_none A2.w hD).symm
    unfold readT at kg kb
    generalize hws : Xp.wsP 0 [] (TL.tl y) = ws at *
    have lw := pw.len
    refine for_it (walk_list (xs := la.map V.ref)) (fun i σ' H' => ∃ (dx : Addr) (x2 x3 : Option V) (ts : List Tr) (us : List Wt) (n : Nat) (aw : Aw) (lt : List Addr), σ' = [some (.str y), some (.ref R), x2, x3, none] ∧ RB R TA W H2 H' ∧ RdA CR H' R TA W dx lt ts us n aw ∧ Fit ⟨ts, us, n, aw⟩ ∧ us.length ≤ i ∧ H' D = some (.lst (la.map V.ref)) ∧ PW H' la ws ∧ goW ws ⟨[], [], 0, .part⟩ = goW (ws.drop i) ⟨ts, us, n, aw⟩)
      ⟨dx, none, none, [], [], 0, .part, lt0, rfl, .same s3, A3, rfl, Nat.le_refl _, eD, pw, rfl⟩ (fun i σ' H' _ ⟨_, _, _, _, _, _, _, _, _, _, _, _, _, e, _⟩ => SqL.of e) ?_ ?_
    · rintro i x σ' H4 H5 hi ⟨dx, x2, x3, ts, us, n, aw, lt1, rfl, B4, A4, F4, lu, eD4, pw4, eg⟩ ⟨rfl, hx⟩
      rw [List.length_map] at hi
      rw [List.getElem?_map, List.getElem?_eq_getElem hi] at hx
      cases hx
      obtain ⟨q, z, e1, e2, e3⟩ := PW.get la ws i _ pw4 (List.getElem?_eq_getElem hi)
      have hq : q ∈ ws := List.mem_of_getElem? e1
      have lq := wsP_len (TL.tl y) 0 [] q (by rw [hws]; exact hq)
      rw [List.length_nil, ← e3, ← TL.len_tl] at lq
      have hdrop : ws.drop i = q :: ws.drop (i + 1) := by
        obtain ⟨h, rfl⟩ := List.getElem?_eq_some_iff.mp e1
        exact List.drop_eq_getElem_cons h
      rw [hdrop] at eg
      refine ⟨_, _, rfl, .inl (.inl e2), rfl, _, _, rfl, _, _, rfl, rfl, ?_⟩
      refine ⟨_, rfl, R, dx, _, rfl, A4.r, rfl, _, rfl, R, TA, W, dx, lt1, ts, us, n, aw, z, rfl, by omega, A4, F4, by omega, trivial, fun s' H6 es B6 A6 => ⟨_, rfl, iteF ?_⟩, fun H6 es B6 => ⟨_, rfl, iteT ?_⟩⟩
      · rw [e3] at es
        obtain ⟨dx6, lt6, A6⟩ := A6
        obtain ⟨F6, l6⟩ := tkS_fit F4 es
        have k6 := A4.tup B6
        obtain ⟨ts6, us6, n6, aw6⟩ := s'
        have l6 : us6.length ≤ us.length + 1 := l6
        refine ⟨dx6, _, _, ts6, us6, n6, aw6, lt6, rfl, B4.trans B6, A6, F6, by omega, B6 _ _ nDR nDT nDW eD4, pw4.keep k6, ?_⟩
        rw [eg, goW_some es]
      · rw [e3] at es
        have kb2 := kb q.1 (by rw [eg, goW_none es])
        exact ⟨_, rfl, mkF xT fun d H' a b c => (kb2.same (fin (B4.trans B6))) d H' a b c⟩
    · rintro σ' H4 ⟨dx, x2, x3, ts, us, n, aw, lt1, rfl, B4, A4, F4, lu, eD4, pw4, eg⟩
      rw [List.length_map, lw, List.drop_length] at eg
      have eg : goW ws ⟨[], [], 0, .part⟩ = .inr ⟨ts, us, n, aw⟩ := eg
      rw [eg] at kg kb
      refine ⟨_, rfl, R, dx, _, rfl, A4.r, rfl, R, TA, W, dx, lt1, ts, us, n, aw, rfl, A4, F4, fun t a H5 et B5 ta => ?_, fun H5 et B5 => ?_⟩
      · refine ⟨_, rfl, rfl, _, rfl, iteF ⟨_, rfl, ?_⟩⟩
        exact kg t a H5 (by show (match endS ⟨ts, us, n, aw⟩ with | some t => _ | none => _) = _; rw [et]) (fin (B4.trans B5)) ta
      · refine ⟨_, rfl, rfl, _, rfl, iteT ?_⟩
        have kb2 := kb (TL.tl y).length (by show (match endS ⟨ts, us, n, aw⟩ with | some t => _ | none => _) = _; rw [et])
        rw [← lt] at kb2
        exact ⟨_, rfl, y, rfl, line8 (by omega), mkF xT fun d H' a b c => (kb2.same (fin (B4.trans B5))) d H' a b c⟩
end
end Xk
end
section
set_option Elab.async false
set_option linter.all false
set_option maxRecDepth 100000
set_option maxHeartbeats 4000000
namespace Xk
open PySem PySem.Spec PyProof.Rows L2 Xh LamX NdefX
/-! ### a tree written freely is read as it is -/
open Xp (Tr Op Wt Tk Aw)
/-- the words of a text -/
def WdL (l : List Nat) : List (Option Tk) := (Xp.wsL [] l).map tkOf
theorem wd_sign (a b : List Nat) {c : Nat} (h : Xp.wordly c = false) (h32 : c ≠ 32) : WdL (a ++ c :: b) = WdL a ++ tkOf [c] :: WdL b := by
  unfold WdL
  rw [Xp.wsL_sign a b h, if_neg h32, List.map_append]
  rfl
theorem wd_head (b : List Nat) {c : Nat} (h : Xp.wordly c = false) (h32 : c ≠ 32) : WdL (c :: b) = tkOf [c] :: WdL b := wd_sign [] b h h32
theorem wd_bl (n : Nat) (l : List Nat) : WdL (List.replicate n 32 ++ l) = WdL l := by
  unfold WdL
  rw [Xp.wsL_blanks]
theorem wd_lb (n : Nat) (l : List Nat) : WdL (l ++ List.replicate n 32) = WdL l := by
  unfold WdL
  rw [Xp.wsL_tail]
theorem wd_nil : WdL [] = [] := rfl
theorem wd_word {w : List Nat} (h0 : w ≠ []) (h : ∀ c ∈ w, Xp.wordly c = true) : WdL w = [tkOf w] := by
  unfold WdL
  rw [Xp.wsL_word w [] h, List.nil_append]
  unfold Xp.flush
  rw [if_neg h0]
  rfl
def cost : Tr → Nat
  | .name _ => 1
  | .num _ => 1
  | .turned t => cost t + 1
  | .power t _ => cost t + 1
  | .bin _ a b => cost a + 1 + cost b
/-- a text of a tree at a level -/
def Wr (l : List Nat) (m : Nat) (t : Tr) : Prop := ∃ xs, WdL l = xs.map some ∧ Xp.Ex m t xs (cost t)
theorem name_wordly {w : List Nat} (h : nameB w = true) : w ≠ [] ∧ ∀ c ∈ w, Xp.wordly c = true := by
  unfold nameB at h
  obtain ⟨h, h2⟩ := Bool.and_eq_true_iff.mp h
  obtain ⟨h0, h1⟩ := Bool.and_eq_true_iff.mp h
  refine ⟨of_decide_eq_true h0, fun c hc => ?_⟩
  have := List.all_eq_true.mp h2 c hc
  simp at this
  unfold Xp.wordly
  simp
  omega
theorem Wr.name {w : List Nat} (h : nameB w = true) : Wr w 2 (.name w) := by
  obtain ⟨h0, h1⟩ := name_wordly h
  refine ⟨[.name w], ?_, .name w⟩
  rw [wd_word h0 h1, name_tk h]
  rfl
theorem numL_head (n : Nat) : TL.numL n = [48] ∨ (TL.numL n).head? ≠ some 48 := by
  induction n using Nat.strongRecOn with
  | _ n ih =>
    by_cases h : n < 10
    · rw [TL.numL_lt h]
      by_cases z : n = 0
      · left
        rw [z]
      · right
        show some (48 + n) ≠ some 48
        intro e
        have := Option.some.inj e
        omega
    · right
      rw [TL.numL_step (by omega)]
      have h1 : n / 10 ≠ 0 := by omega
      have hn := TL.numL_ne (n / 10)
      rcases ih (n / 10) (by omega) with e | e
      · exact absurd (TL.numL_inj (m := n / 10) (n := 0) (by rw [e]; rfl)) h1
      · revert e hn
        generalize TL.numL (n / 10) = l
        intro hn e
        cases l with
        | nil => exact absurd rfl hn
        | cons c r => exact e
theorem num_fig {n : Nat} (h : n < 1000000) : figB 6 (TL.numL n) = true := by
  unfold figB
  have d := TL.numL_digits n
  have l := TL.numL_len (n := n) (k := 6) (by decide) (by omega)
  rw [decide_eq_true (TL.numL_ne n), decide_eq_true l, List.all_eq_true.mpr (fun c hc => by have := d c hc; simpa using this)]
  rcases numL_head n with e | e
  · rw [e]; rfl
  · rw [decide_eq_true e]
    simp
theorem num_wordly (n : Nat) : ∀ c ∈ TL.numL n, Xp.wordly c = true := fun c hc => by
  have := TL.numL_digits n c hc
  unfold Xp.wordly
  simp
  omega
theorem num_tk {n : Nat} (h : n < 1000000) : tkOf (TL.numL n) = some (.fig n) := by
  rw [fig_tk (fig_name (num_fig h)) (num_fig h), TL.numL_val]
theorem Wr.num {n : Nat} (h : n < 1000000) : Wr (TL.numL n) 2 (.num n) := by
  refine ⟨[.fig n], ?_, .num n⟩
  rw [wd_word (TL.numL_ne n) (num_wordly n), num_tk h]
  rfl
theorem Wr.tick {l : List Nat} {t : Tr} (h : Wr l 2 t) (n : Nat) : Wr (l ++ List.replicate n 32 ++ [39]) 2 (.turned t) := by
  obtain ⟨xs, e, x⟩ := h
  refine ⟨xs ++ [.tick], ?_, .turned x⟩
  rw [wd_sign _ _ (by decide) (by decide), wd_lb, e, List.map_append]
  rfl
theorem Wr.shut {l : List Nat} {t : Tr} (h : Wr l 0 t) (a b : Nat) : Wr ([40] ++ List.replicate a 32 ++ l ++ List.replicate b 32 ++ [41]) 2 t := by
  obtain ⟨xs, e, x⟩ := h
  refine ⟨.lp :: (xs ++ [.rp]), ?_, .shut x⟩
  rw [wd_sign _ _ (by decide) (by decide), wd_lb, List.append_assoc, List.singleton_append, wd_head _ (by decide) (by decide), wd_bl, e, wd_nil]
  simp
  exact ⟨rfl, rfl⟩
def numE (e : Int) : List Nat := TL.numL e.natAbs
theorem Wr.pow {l : List Nat} {t : Tr} (h : Wr l 2 t) (a b c : Nat) {e : Int} (he : e.natAbs < 1000000) : Wr (l ++ List.replicate a 32 ++ [94] ++ List.replicate b 32 ++ (if e < 0 then [45] else []) ++ List.replicate c 32 ++ numE e) 2 (.power t e) := by
  obtain ⟨xs, ex, x⟩ := h
  have hn : WdL (numE e) = [some (.fig e.natAbs)] := by
    unfold numE
    rw [wd_word (TL.numL_ne _) (num_wordly _), num_tk he]
  by_cases g : e < 0
  · refine ⟨xs ++ [.hat, .op .minus, .fig e.natAbs], ?_, ?_⟩
    · rw [if_pos g]
      rw [show l ++ List.replicate a 32 ++ [94] ++ List.replicate b 32 ++ [45] ++ List.replicate c 32 ++ numE e = (l ++ List.replicate a 32 ++ [94] ++ List.replicate b 32) ++ 45 :: (List.replicate c 32 ++ numE e) by simp]
      rw [wd_sign _ _ (by decide) (by decide), wd_lb, wd_sign _ _ (by decide) (by decide), wd_lb, wd_bl, hn, ex, wd_nil]
      simp
      exact ⟨rfl, rfl⟩
    · have := Xp.Ex.less e.natAbs x
      rw [show -((e.natAbs : Nat) : Int) = e by omega] at this
      exact this
  · refine ⟨xs ++ [.hat, .fig e.natAbs], ?_, ?_⟩
    · rw [if_neg g]
      rw [show l ++ List.replicate a 32 ++ [94] ++ List.replicate b 32 ++ [] ++ List.replicate c 32 ++ numE e = (l ++ List.replicate a 32) ++ 94 :: (List.replicate b 32 ++ (List.replicate c 32 ++ numE e)) by simp only [List.append_assoc, List.append_nil, List.singleton_append, List.cons_append, List.nil_append]]
      rw [wd_sign _ _ (by decide) (by decide), wd_lb, wd_bl, wd_bl, hn, ex]
      simp
      rfl
    · have := Xp.Ex.pow e.natAbs x
      rw [show ((e.natAbs : Nat) : Int) = e by omega] at this
      exact this
theorem Wr.bin {k : Op} {l r : List Nat} {a b : Tr} {c : Nat} (hc : [c] = opL k) (h : Wr l (if k.strong then 1 else 0) a) (g : Wr r (if k.strong then 2 else 1) b) (m n : Nat) : Wr (l ++ List.replicate m 32 ++ [c] ++ List.replicate n 32 ++ r) (if k.strong then 1 else 0) (.bin k a b) := by
  obtain ⟨xs, ex, x⟩ := h
  obtain ⟨ys, ey, y⟩ := g
  refine ⟨xs ++ .op k :: ys, ?_, ?_⟩
  · rw [show l ++ List.replicate m 32 ++ [c] ++ List.replicate n 32 ++ r = (l ++ List.replicate m 32) ++ c :: (List.replicate n 32 ++ r) by simp]
    have h1 : Xp.wordly c = false ∧ c ≠ 32 ∧ tkOf [c] = some (.op k) := by
      cases k <;> (cases hc; exact ⟨by decide, by decide, rfl⟩)
    rw [wd_sign _ _ h1.1 h1.2.1, wd_lb, wd_bl, ex, ey, h1.2.2]
    simp
  · cases hk : k.strong with
    | true =>
      rw [hk] at x y
      exact .strong hk x y
    | false =>
      rw [hk] at x y
      exact .weak hk x y
theorem Wr.down {l : List Nat} {m n : Nat} {t : Tr} (h : Wr l m t) (hm : m ≤ 2) (hn : n ≤ m) : Wr l n t := by
  obtain ⟨xs, e, x⟩ := h
  refine ⟨xs, e, ?_⟩
  match m, n, hm, hn with
  | 0, 0, _, _ => exact x
  | 1, 0, _, _ => exact .up0 x
  | 1, 1, _, _ => exact x
  | 2, 0, _, _ => exact .up0 (.up1 x)
  | 2, 1, _, _ => exact .up1 x
  | 2, 2, _, _ => exact x
theorem goW_run : ∀ (ws : List (Nat × List Nat)) (xs : List Tk) (s s' : Xp.St), (ws.map (·.2)).map tkOf = xs.map some → Xp.run xs s = some s' → goW ws s = .inr s'
  | [], [], s, s', _, h => by
    cases h
    rfl
  | q :: ws, x :: xs, s, s', e, h => by
    injection e with e1 e2
    have h : (Xp.take s x).bind (Xp.run xs) = some s' := h
    cases e3 : Xp.take s x with
    | none =>
      rw [e3] at h
      cases h
    | some s1 =>
      rw [e3] at h
      have : tkS s q.2 = some s1 := by
        unfold tkS
        rw [e1]
        exact e3
      rw [goW_some this]
      exact goW_run ws xs s1 s' e2 h
  | [], _ :: _, _, _, e, _ => by cases e
  | _ :: _, [], _, _, e, _ => by cases e
/-- a text so written is read as its tree -/
theorem Wr.read {l : List Nat} {t : Tr} (h : Wr l 0 t) (hc : cost t ≤ 40) : readT l = .inr t := by
  obtain ⟨xs, e, x⟩ := h
  obtain ⟨s, e1, e2, e3⟩ := Xp.read_all x hc
  unfold readT
  rw [goW_run (Xp.wsP 0 [] l) xs _ s (by rw [Xp.wsP_words]; exact e) e1]
  show (match endS s with
    | some t => _
    | none => _) = _
  have : endS s = some t := by
    unfold endS
    rw [e2, e3]
  rw [this]
end Xk
end
section
set_option Elab.async false
set_option linter.all false
set_option maxRecDepth 100000
set_option maxHeartbeats 4000000
namespace Xk
open PySem PySem.Spec PyProof.Rows L2 Xh LamX NdefX
/-! ### names drawn, blanks drawn -/
open Xp (Tr Op Wt Tk Aw)
def spOr (a b : Sp) : Sp := fun vs H Q E => a vs H Q E ∨ b vs H Q E
theorem fn_join {P : Program} {w : World} {K : PySem.W.Frag} {mg : Str → Option Value} {base : Heap} {CX : CXT} {k : Nat} {f : Addr} {fd : FuncData} {ps : List Str} {sp sp' : Sp} (F : FnOk P w K mg base CX k f fd ps sp) (G : FnOk P w K mg base CX k f fd ps sp') : FnOk P w K mg base CX k f fd ps (spOr sp sp') :=
  ⟨fun vs H Q E h => h.elim (F.len vs H Q E) (G.len vs H Q E), fun A outer s H args us vs Q E hr he hb hv hs => hs.elim (F.run A outer s H args us vs Q E hr he hb hv) (G.run A outer s H args us vs Q E hr he hb hv)⟩
theorem But.lcs {H H2 : Hp} {d D : Addr} {o : HO} (hD : H D = none) (b : But d H H2) : But d H (L2.upd H2 D o) := ⟨fun c u h e => by
  rw [upd_ne (ne_of_none e hD)]
  exact b.f c u h e, fun c r e => by
  obtain ⟨r', e'⟩ := b.c c r e
  exact ⟨r', by rw [upd_ne (ne_of_none e hD)]; exact e'⟩⟩
theorem lcsS {H H2 : Hp} {D : Addr} {o : HO} (hD : H D = none) (s : Same H H2) : Same H (L2.upd H2 D o) := fun b o h => by
  rw [upd_ne (ne_of_none h hD)]
  exact s b o h
theorem joinL_nil : ∀ ps : List (List Nat), TL.joinL [] ps = ps.flatten
  | [] => rfl
  | [p] => by
    show p = p ++ []
    rw [List.append_nil]
  | p :: q :: r => by
    show p ++ ([] ++ TL.joinL [] (q :: r)) = p ++ (q :: r).flatten
    rw [List.nil_append, joinL_nil]
theorem join_abc (ys : List Str) (h : ∀ y ∈ ys, ∃ c, 97 ≤ c ∧ c ≤ 122 ∧ TL.tl y = [c]) : (TL.tl (Txt.join "" ys)).length = ys.length ∧ ∀ c ∈ TL.tl (Txt.join "" ys), 97 ≤ c ∧ c ≤ 122 := by
  have e : TL.tl (Txt.join "" ys) = (ys.map TL.tl).flatten := by
    have := TL.tl_join "" ys
    rw [← TL.join_eq, show TL.tl (Str.ofString "") = [] from rfl, joinL_nil] at this
    exact this
  rw [e]
  induction ys with
  | nil => exact ⟨rfl, fun c h => by cases h⟩
  | cons y ys ih =>
    obtain ⟨c, c1, c2, ey⟩ := h y List.mem_cons_self
    obtain ⟨i1, i2⟩ := ih (fun z hz => h z (List.mem_cons_of_mem _ hz)) (by
      have := TL.tl_join "" ys
      rw [← TL.join_eq, show TL.tl (Str.ofString "") = [] from rfl, joinL_nil] at this
      exact this)
    rw [List.map_cons, List.flatten_cons, ey]
    refine ⟨by rw [List.length_append, i1, List.length_cons]; show 1 + ys.length = ys.length + 1; omega, fun d hd => ?_⟩
    rcases List.mem_append.mp hd with hd | hd
    · rw [List.mem_singleton.mp hd]
      exact ⟨c1, c2⟩
    · exact i2 d hd
theorem sum_ones : ∀ ys : List Str, (∀ y ∈ ys, y.length = 1) → (ys.map fun x => x.length).sum = ys.length
  | [], _ => rfl
  | y :: ys, h => by
    rw [List.map_cons, List.sum_cons, sum_ones ys fun z hz => h z (List.mem_cons_of_mem _ hz), h y List.mem_cons_self, List.length_cons]
    omega
def abcL : List Nat := (List.range 26).map (97 + ·)
def spLetters : Sp := fun vs H Q _ => vs = [] ∧ ∀ y : Str, TL.tl y = abcL → Q (.str y) H
def spOfS : Sp := fun vs H Q _ => ∃ (d : Addr) (y : Str), vs = [.ref d, .str y] ∧ Draw H d ∧ 0 < y.length ∧ y.length ≤ 1000 ∧ ∀ (c : Nat) (H' : Hp), c ∈ TL.tl y → Draw H' d → But d H H' → Q (.str ⟨#[c]⟩) H'
def spBlank : Sp := fun vs H Q _ => ∃ d : Addr, vs = [.ref d] ∧ Draw H d ∧ ∀ (y : Str) (n : Nat) (H' : Hp), n ≤ 3 → TL.tl y = List.replicate n 32 → Draw H' d → But d H H' → Q (.str y) H'
def spFresh (K : PySem.W.Frag) : Sp := fun vs H Q _ => ∃ d a : Addr, vs = [.ref d, .ref a] ∧ Draw H d ∧ a ≠ d ∧ SqL K H a [] ∧ ∀ (y : Str) (H' : Hp), nameB (TL.tl y) = true → Draw H' d → But d H H' → Q (.str y) H'
section
variable {P : Program} {w : World} {K : PySem.W.Frag} {mg : Str → Option Value} {base : Heap}
theorem sc_law_letters : FnScope ([] : List Str) [] (defScope s_law_letters) := ⟨rfl, rfl, rfl, by decide +kernel, rfl, by decide +kernel, by decide +kernel⟩
theorem ok_law_letters {f : Addr} {fd : FuncData} (F : FunD K "_law_letters" "_law_letters" (defArgs s_law_letters) (defBody s_law_letters) (defScope s_law_letters) [] [] f fd) : FnOk P w K mg base CX0 1 f fd [] spLetters := by
  refine F.ok sc_law_letters (fun vs H Q E h => ?_) (fun cdv A outer s H vs Q E hr h => ?_)
  · obtain ⟨rfl, _⟩ := h
    rfl
  · obtain ⟨rfl, k⟩ := h
    refine ⟨_, PSs.nox (pss_one (ps_ret pe_str)) , ?_⟩
    exact k _ (by decide +kernel)
theorem z_law_of {f : Addr} {fd : FuncData} (F : FunD K "_law_of" "_law_of" (defArgs s_law_of) (defBody s_law_of) (defScope s_law_of) [] [] f fd) (T : Fre mg) (o_law_take : Own P w K mg base CX0 1 "_law_take" ["_law_draw", "_law_sides"] [] spTake) : FnOk P w K mg base CX0 2 f fd ["_law_draw", "_law_row"] (spOr (spOf K) spOfS) := by
  refine fn_join (ok_of F T o_law_take) ?_
  refine F.ok sc_law_of (fun vs H Q E h => ?_) (fun cdv A outer s H vs Q E hr h => ?_)
  · obtain ⟨d, y, rfl, _⟩ := h
    rfl
  · obtain ⟨d, y, rfl, D, h1, h2, k⟩ := h
    refine ⟨_, PSs.nox (pss_one (ps_ret (pe_ix ix_str (pv 1) (pe_own o_law_take (hr.mono (by decide)) rfl pass0 (pa_cons (pv 0) (pa_cons (pe_callB call_len_str (by rfl) T.f_len PySem.boot_len (pa_cons (pv 1) pa_nil)) pa_nil))) (fun _ _ => rfl)))) , ?_⟩
    refine ⟨_, rfl, _, rfl, _, rfl, y, rfl, line8 (by omega), d, _, rfl, D, by omega, big (by omega), fun m H' m0 m1 D' B => ?_⟩
    obtain ⟨j, rfl⟩ := Int.eq_ofNat_of_zero_le m0
    have hj : j < (TL.tl y).length := by rw [← TL.len_tl]; omega
    exact ⟨y, j, (TL.tl y)[j], rfl, rfl, line8 (by omega), atI_nat (xs := TL.tl y) (List.getElem?_eq_getElem hj), k _ _ (List.getElem_mem hj) D' B⟩
theorem sc_law_fresh : FnScope (["_law_draw", "_law_taken", "_law_word", "_law_some", "_law_k", "_law_one"] : List Str) ["_law_draw", "_law_taken"] (defScope s_law_fresh) := ⟨rfl, rfl, rfl, by decide +kernel, rfl, by decide +kernel, by decide +kernel⟩
theorem ok_law_fresh {f : Addr} {fd : FuncData} (F : FunD K "_law_fresh" "_law_fresh" (defArgs s_law_fresh) (defBody s_law_fresh) (defScope s_law_fresh) [] [] f fd) (T : Fre mg) (o_s_law_of : Own P w K mg base CX0 2 "_law_of" ["_law_draw", "_law_row"] [] (spOr (spOf K) spOfS)) (o_law_letters : Own P w K mg base CX0 1 "_law_letters" [] [] spLetters) : FnOk P w K mg base CX0 3 f fd ["_law_draw", "_law_taken"] (spFresh K) := by
  refine F.ok sc_law_fresh (fun vs H Q E h => ?_) (fun cdv A outer s H vs Q E hr h => ?_)
  · obtain ⟨d, a, rfl, _⟩ := h
    rfl
  · obtain ⟨d, a, rfl, D, hne, hS, k⟩ := h
    refine ⟨_, PSs.nox (pss_cons (ps_set (i := 2) sc_law_fresh.nd rfl (Or.inl rfl) (pe_join pe_str (pe_lc (own := [("_law_k", 4)]) rfl sc_law_fresh.nd (pi_range1 (by rfl) T.f_range (pa_cons (pe_own o_s_law_of (hr.mono (by decide)) rfl pass0 (pa_cons (pv 0) (pa_cons (pe_lst (pa_cons pe_int (pa_cons pe_int (pa_cons pe_int (pa_cons pe_int (pa_cons pe_int pa_nil)))))) pa_nil))) pa_nil)) (blkOk_by (own := [("_law_k", 4)]) (N := ["_law_draw", "_law_taken", "_law_word", "_law_some", "_law_k", "_law_one"]) (sc := defScope s_law_fresh) (by decide +kernel)) (fun _ _ _ _ _ => pg_name (i := 4) sc_law_fresh.nd rfl (Or.inl rfl) (Or.inr rfl)) (fun _ _ _ _ _ => pts_nil) (fun _ _ _ _ _ => (pe_own o_s_law_of (hr.mono (by decide)) rfl pass0 (pa_cons (pv 0) (pa_cons (pe_own0 o_law_letters (hr.mono (by decide)) rfl pass0) pa_nil)))))))
      (pss_cons (ps_set (i := 3) sc_law_fresh.nd rfl (Or.inl rfl) (pe_op op_cat (pe_lst (pa_cons (pv 2) pa_nil)) (pe_lc (own := [("_law_one", 5)]) rfl sc_law_fresh.nd (pi_str (pe_own0 o_law_letters (hr.mono (by decide)) rfl pass0)) (blkOk_by (own := [("_law_one", 5)]) (N := ["_law_draw", "_law_taken", "_law_word", "_law_some", "_law_k", "_law_one"]) (sc := defScope s_law_fresh) (by decide +kernel)) (fun _ _ _ _ _ => pg_name (i := 5) sc_law_fresh.nd rfl (Or.inl rfl) (Or.inr rfl)) (fun _ _ _ _ _ => pts_nil) (fun _ _ _ _ _ => (pe_op op_mulZ (pv 5) pe_int)))))
      (pss_one (ps_ret (pe_ix ix_list (pe_lc (own := [("_law_one", 5)]) (tt := tTest (tOp (rIn K true) (tVar 5) (tVar 1))) rfl sc_law_fresh.nd (pi_list (pv 3)) (blkOk_by (own := [("_law_one", 5)]) (N := ["_law_draw", "_law_taken", "_law_word", "_law_some", "_law_k", "_law_one"]) (sc := defScope s_law_fresh) (by decide +kernel)) (fun _ _ _ _ _ => pg_name (i := 5) sc_law_fresh.nd rfl (Or.inl rfl) (Or.inr rfl)) (fun _ _ _ _ _ => (pts_one (pt_cmpR (op_notIn_seq) (pv 5) (pv 1) (by rfl)))) (fun _ _ _ _ _ => (pv 5))) pe_int (fun _ _ => rfl)))))) , ?_⟩
    refine ⟨⟨_, rfl⟩, _, rfl, (by show 5 ≤ sizeLine; decide), fun p hp => .inl ⟨d, p, _, rfl, D.same (same_upd hp), SqL.of upd_same, (D.ne hp), by decide, by decide, fun x H1 hx D1 B1 => ?_⟩⟩
    obtain ⟨n, rfl, n1, n8⟩ : ∃ n : Nat, x = .int (n : Int) ∧ 1 ≤ n ∧ n ≤ 8 := by
      simp at hx
      rcases hx with rfl | rfl | rfl | rfl
      · exact ⟨1, rfl, by decide, by decide⟩
      · exact ⟨2, rfl, by decide, by decide⟩
      · exact ⟨5, rfl, by decide, by decide⟩
      · exact ⟨8, rfl, by decide, by decide⟩
    have B1 := (But.same (d := d) (same_upd (o := .lst [.int 1, .int 1, .int 2, .int 5, .int 8]) hp)).trans B1
    have hS1 := B1.seq hne hS
    refine ⟨(n : Int), rfl, by omega, by omega, fun FL hFL => ?_⟩
    have hFd : FL ≠ d := D1.ne hFL
    rw [Int.toNat_natCast]
    refine lc_it (walk_range (lo := 0) (n := n)) (fun i H' => ∃ ys : List Str, H' FL = some (.lst (ys.map V.str)) ∧ ys.length = i ∧ (∀ y ∈ ys, ∃ c, 97 ≤ c ∧ c ≤ 122 ∧ TL.tl y = [c]) ∧ Draw H' d ∧ But d H1 H') ⟨[], upd_same, rfl, (fun y h => by cases h), D1.same (same_upd hFL), But.updN hFL⟩ (fun _ _ _ _ => trivial) ?_ ?_
    · rintro i x H2 H3 hi ⟨ys, e2, ly, hy, D2, B2⟩ ⟨rfl, hx⟩
      refine ⟨rfl, _, rfl, rfl, fun z hz => .inr ⟨d, z, rfl, D2, ?_, ?_, fun c H4 hc D4 B4 => ?_⟩⟩
      · rw [TL.len_tl, hz]; decide
      · rw [TL.len_tl, hz]; decide
      · have e4 := B4 _ _ hFd e2
        have B24 := B2.trans B4
        refine ⟨_, e4, by rw [List.length_map, ly]; exact line4 (by omega), ys ++ [⟨#[c]⟩], ?_, by rw [List.length_append, ly]; rfl, ?_, Draw.updR D1 hFL B24 D4 e4, But.lcs hFL B24⟩
        · rw [upd_same, List.map_append]
          rfl
        · intro y hy2
          rcases List.mem_append.mp hy2 with h | h
          · exact hy y h
          · rw [List.mem_singleton.mp h]
            rw [hz] at hc
            unfold abcL at hc
            obtain ⟨q, hq, rfl⟩ := List.mem_map.mp hc
            have := List.mem_range.mp hq
            exact ⟨97 + q, by omega, by omega, rfl⟩
    · rintro H2 ⟨ys, e2, ly, hy, D2, B2⟩
      have hw := join_abc ys hy
      refine ⟨"", FL, ys, rfl, rfl, .inl (SqL.of e2), ?_, ?_⟩
      · have : (ys.map fun x => x.length).sum = ys.length := sum_ones ys fun y h => by
          obtain ⟨c, _, _, e⟩ := hy y h
          rw [TL.len_tl, e]
          rfl
        rw [this]
        have h0 : (Str.ofString "").length = 0 := rfl
        rw [h0]
        omega
      generalize Txt.join "" ys = word at hw
      have hn : nameB (TL.tl word) = true := by
        obtain ⟨w1, w2⟩ := hw
        unfold nameB
        have l1 : (TL.tl word).length = n := by rw [w1, ly]
        rw [decide_eq_true (show TL.tl word ≠ [] from fun z => by rw [z] at l1; simp at l1; omega), decide_eq_true (show (TL.tl word).length ≤ 8 by omega)]
        rw [Bool.and_self, Bool.true_and, List.all_eq_true]
        intro c hc
        have := w2 c hc
        simpa using this
      have B2' := B1.trans B2
      refine ⟨_, rfl, (by show 1 ≤ sizeLine; decide), fun p2 hp2 => ?_⟩
      have s3 := same_upd (o := .lst [.str word]) hp2
      have e3 : L2.upd H2 p2 (.lst [.str word]) p2 = some (.lst [.str word]) := upd_same
      show tLc _ _ _ _ _ _ (L2.upd H2 p2 (.lst [.str word])) _
      generalize L2.upd H2 p2 (.lst [.str word]) = H3 at *
      refine ⟨rfl, fun z hz => ⟨z, rfl, fun D2a hD2 => ?_⟩⟩
      refine lc_it (walk_str (z := z)) (fun i H' => ∃ zs : List Str, Same H3 H' ∧ H' D2a = some (.lst (zs.map V.str)) ∧ zs.length = i) ⟨[], same_upd hD2, upd_same, rfl⟩ (fun _ _ _ _ => trivial) ?_ ?_
      · rintro i x H4 H5 hi ⟨zs, s4, e4, lz⟩ ⟨rfl, c, hc, rfl⟩
        have li : i < 26 := by
          have : z.cps.size = 26 := by
            have := TL.len_tl z
            rw [hz] at this
            exact this
          omega
        refine ⟨rfl, _, rfl, _, 2, rfl, rfl, (by show 1 ≤ 10; decide), by decide, fun y hy2 => ?_⟩
        refine ⟨_, e4, by rw [List.length_map, lz]; exact line4 (by omega), zs ++ [y], ?_, ?_, by rw [List.length_append, lz]; rfl⟩
        · exact lcsS hD2 s4
        · rw [upd_same, List.map_append]
          rfl
      · rintro H4 ⟨zs, s4, e4, lz⟩
        have lz : zs.length ≤ 26 := by
          have : z.cps.size = 26 := by
            have := TL.len_tl z
            rw [hz] at this
            exact this
          omega
        refine ⟨p2, D2a, _, _, rfl, rfl, s4 _ _ e3, e4, by rw [List.length_map]; show 1 + zs.length ≤ sizeLine; exact line8 (by omega), fun p5 hp5 => ?_⟩
        have s5 := same_upd (o := .lst ([.str word] ++ zs.map V.str)) hp5
        have e5 : L2.upd H4 p5 (.lst ([.str word] ++ zs.map V.str)) p5 = some (.lst ((word :: zs).map V.str)) := upd_same
        have S5 : Same H2 (L2.upd H4 p5 (.lst ([.str word] ++ zs.map V.str))) := (s3.trans s4).trans s5
        refine ⟨_, rfl, p5, rfl, ⟨_, SqL.of e5⟩, fun D6 hD6 => ?_⟩
        generalize L2.upd H4 p5 (.lst ([.str word] ++ zs.map V.str)) = H5 at *
        refine lc_it (walk_list (xs := (word :: zs).map V.str)) (fun i H' => Same H5 H' ∧ H' D6 = some (.lst (((word :: zs).map V.str).take i))) ⟨same_upd hD6, upd_same⟩ (fun i H' _ h => SqL.of (h.1 _ _ e5)) ?_ ?_
        · rintro i x H6 H7 hi ⟨s6, e6⟩ ⟨rfl, hx⟩
          have fx : flatV x = true := by
            obtain ⟨y, _, rfl⟩ := List.mem_map.mp (List.mem_of_getElem? hx)
            rfl
          refine ⟨rfl, _, rfl, _, rfl, a, [], rfl, .inl ((S5.trans s6).seq (B2'.seq hne hS)), fx, rfl, true, rfl, iteT ⟨_, rfl, _, e6, ?_, lcsS hD6 s6, ?_⟩⟩
          · rw [List.length_take, List.length_map, List.length_cons]
            exact line4 (by omega)
          · rw [upd_same, List.take_add_one, hx]
            rfl
        · rintro H6 ⟨s6, e6⟩
          rw [List.take_length] at e6
          exact ⟨D6, _, 0, .str word, rfl, rfl, SqL.of e6, atI_nat (j := 0) rfl, k word H6 hn ((D2.same S5).same s6) (B2'.trans (But.same (S5.trans s6)))⟩
end
end Xk
end
section
set_option Elab.async false
set_option linter.all false
set_option maxRecDepth 100000
set_option maxHeartbeats 4000000
namespace Xk
open PySem PySem.Spec PyProof.Rows L2 Xh LamX NdefX
/-! ### a tree drawn -/
open Xp (Tr Op Wt Tk Aw)
/-- of some depth at most, its names and numbers as they may be -/
def OkT : Nat → Tr → Prop
  | _, .name w => nameB w = true
  | _, .num n => n < 1000000
  | d + 1, .turned t => OkT d t
  | d + 1, .power t e => e.natAbs < 1000000 ∧ OkT d t
  | d + 1, .bin _ a b => OkT d a ∧ OkT d b
  | 0, _ => False
theorem OkT.up : ∀ {d : Nat} {t : Tr}, OkT d t → OkT (d + 1) t
  | 0, .name _, h => h
  | 0, .num _, h => h
  | d + 1, .name _, h => h
  | d + 1, .num _, h => h
  | d + 1, .turned t, h => OkT.up (d := d) (t := t) h
  | d + 1, .power t _, h => ⟨h.1, OkT.up (d := d) (t := t) h.2⟩
  | d + 1, .bin _ a b, h => ⟨OkT.up (d := d) (t := a) h.1, OkT.up (d := d) (t := b) h.2⟩
  | 0, .turned _, h => h.elim
  | 0, .power _ _, h => h.elim
  | 0, .bin _ _ _, h => h.elim
theorem OkT.le {d e : Nat} {t : Tr} (h : OkT d t) (l : d ≤ e) : OkT e t := by
  induction l with
  | refl => exact h
  | step _ ih => exact ih.up
theorem But.tk {d : Addr} {H H' : Hp} (D : Draw H d) (B : But d H H') : TupK H H' := fun a xs e => B a _ (fun z => by
  obtain ⟨c, ns, i, r, g, h, _⟩ := D
  rw [z, h] at e
  cases e) e
theorem dp_strs : ∀ {K : PySem.W.Frag} {H : Hp} (ys : List Str), DpAll K H (ys.map V.str) (ys.map PyData.str)
  | _, _, [] => .nil
  | _, _, _ :: ys => .cons (.str _) (dp_strs ys)
theorem strOk_of {y : Str} (h : ∀ c ∈ TL.tl y, c < 128) : PyData.strOk y = true := by
  unfold PyData.strOk
  rw [← Array.all_toList]
  exact List.all_eq_true.mpr fun c hc => decide_eq_true (Nat.lt_of_lt_of_le (h c hc) (by decide))
theorem sh_strs {ys : List Str} (h : ∀ y ∈ ys, ∀ c ∈ TL.tl y, c < 128) : SeqAt.shaped (PyData.list (ys.map PyData.str)) = true := by
  have h1 : PyData.canLayAll0 (ys.map PyData.str) = true := by
    induction ys with
    | nil => rfl
    | cons y ys ih =>
      have i2 := ih fun z hz => h z (List.mem_cons_of_mem _ hz)
      have i3 := strOk_of (h y List.mem_cons_self)
      simp [PyData.canLayAll0, PyData.canLay0, PySem.W.ke_canLayAll0, i2, i3]
  have h2 : PyData.depthAll (ys.map PyData.str) = 0 := by
    clear h h1
    induction ys with
    | nil => rfl
    | cons y ys ih => simp [PyData.depthAll, PyData.depth, PySem.W.ke_depthAll, ih]
  unfold SeqAt.shaped
  rw [Bool.and_eq_true]
  refine ⟨?_, decide_eq_true ?_⟩
  · simpa [PyData.canLay0] using h1
  · simp only [PyData.depth, h2]
    omega
theorem eqv_nilS (ys : List Str) : PyData.eqv (.list (ys.map PyData.str)) (.list []) = decide (ys = []) := by
  cases ys with
  | nil => rfl
  | cons y ys => simp [PyData.eqv, PyData.eqvAll]
theorem name_ascii {y : Str} (h : nameB (TL.tl y) = true) : ∀ c ∈ TL.tl y, c < 128 := fun c hc => wordly_lt ((name_wordly h).2 c hc)
def spTree (K : PySem.W.Frag) : Nat → Sp
  | 0 => fun _ _ _ _ => False
  | n + 1 => fun vs H Q _ => ∃ (d ln : Addr) (ns : List Str) (deep : Nat), vs = [.ref d, .ref ln, .int (deep : Int)] ∧ deep ≤ n ∧ deep ≤ 100 ∧ Draw H d ∧ ln ≠ d ∧ SqL K H ln (ns.map V.str) ∧ 0 < ns.length ∧ ns.length ≤ 3 ∧ (∀ y ∈ ns, nameB (TL.tl y) = true) ∧
    ∀ (t : Tr) (a : Addr) (H' : Hp), OkT deep t → TreeAt H' a t → Draw H' d → But d H H' → Q (.ref a) H'
theorem spTree_len {K : PySem.W.Frag} : ∀ (n : Nat) (vs : List V) (H : Hp) (Q : VK) (E : XK), spTree K n vs H Q E → vs.length = (["_law_draw", "_law_names", "_law_deep"] : List Str).length
  | 0, _, _, _, _, h => h.elim
  | n + 1, _, _, _, _, ⟨_, _, _, _, e, _⟩ => by rw [e]; rfl
section
variable {P : Program} {w : World} {K : PySem.W.Frag} {mg : Str → Option Value} {base : Heap}
theorem sc_law_tree : FnScope (["_law_draw", "_law_names", "_law_deep", "_law_fork", "_law_one", "_law_word"] : List Str) ["_law_draw", "_law_names", "_law_deep"] (defScope s_law_tree) := ⟨rfl, rfl, rfl, by decide +kernel, rfl, by decide +kernel, by decide +kernel⟩
theorem ok_law_tree {f : Addr} {fd : FuncData} (F : FunD K "_law_tree" "_law_tree" (defArgs s_law_tree) (defBody s_law_tree) (defScope s_law_tree) [] [] f fd) (T : Fre mg) (m : mg "_law_tree" = some (.ref f)) (o_law_take : Own P w K mg base CX0 1 "_law_take" ["_law_draw", "_law_sides"] [] spTake) (o_law_of : Own P w K mg base CX0 2 "_law_of" ["_law_draw", "_law_row"] [] (spOf K)) : ∀ n : Nat, FnOk P w K mg base CX0 (n + 3) f fd ["_law_draw", "_law_names", "_law_deep"] (spTree K n) := by
  intro n
  induction n with
  | zero => exact ⟨fun _ _ _ _ h => h.elim, fun _ _ _ _ _ _ _ _ _ _ _ _ _ h => h.elim⟩
  | succ n ih =>
  have o_law_tree : Own P w K mg base CX0 (n + 3) "_law_tree" ["_law_draw", "_law_names", "_law_deep"] [] (spTree K n) := own_of F ih m fun _ _ _ _ _ _ us hl => match us, hl with | [_, _, _], _ => rfl
  refine F.ok sc_law_tree (spTree_len _) (fun cdv A outer s H vs Q E hr h => ?_)
  obtain ⟨d, ln, ns, deep, rfl, hd, hd2, D, nl, hS, n0, n3, hn, k⟩ := h
  have hr0 := hr.mono (show 2 ≤ n + 3 by omega)
  refine ⟨_, PSs.nox (pss_cons (ps_set (i := 3) sc_law_tree.nd rfl (Or.inl rfl) (pe_own o_law_take (hr0.mono (by decide)) rfl pass0 (pa_cons (pv 0) (pa_cons pe_int pa_nil))))
      (C8.pss_cut (ps_if (PW.pt (pw_or (pt_cmpR op_eq (pv 2) pe_int (nomark _)) (pw_or1 (pt_cmpR op_lt (pv 3) pe_int (nomark _))))) (pss_cons (ps_if (PW.pt (pw_and (pt_cmpR (op_neD hr.units) (pv 1) (pe_lst pa_nil) (nomark _)) (pw_and1 (pt_cmpR op_gt (pe_own o_law_take (hr0.mono (by decide)) rfl pass0 (pa_cons (pv 0) (pa_cons pe_int pa_nil))) pe_int (nomark _))))) (pss_one (ps_ret (pe_tup (pa_cons pe_str (pa_cons (pe_own o_law_of hr0 rfl pass0 (pa_cons (pv 0) (pa_cons (pv 1) pa_nil))) pa_nil))))) pss_nil)
      (pss_one (ps_ret (pe_tup (pa_cons pe_str (pa_cons (pe_own o_law_of hr0 rfl pass0 (pa_cons (pv 0) (pa_cons (pe_lst (pa_cons pe_int (pa_cons pe_int (pa_cons pe_int (pa_cons pe_int (pa_cons (pe_own o_law_take (hr0.mono (by decide)) rfl pass0 (pa_cons (pv 0) (pa_cons pe_int pa_nil))) pa_nil)))))) pa_nil))) pa_nil)))))) pss_nil)
      (pss_cons (ps_set (i := 4) sc_law_tree.nd rfl (Or.inl rfl) (pe_own o_law_tree hr rfl pass0 (pa_cons (pv 0) (pa_cons (pv 1) (pa_cons (pe_op op_sub (pv 2) pe_int) pa_nil)))))
      (pss_cons (ps_if (pt_cmpR op_eq (pv 3) pe_int (nomark _)) (pss_one (ps_ret (pe_tup (pa_cons pe_str (pa_cons (pv 4) pa_nil))))) pss_nil)
      (pss_cons (ps_if (pt_cmpR op_eq (pv 3) pe_int (nomark _)) (pss_one (ps_ret (pe_tup (pa_cons pe_str (pa_cons (pv 4) (pa_cons (pe_own o_law_of hr0 rfl pass0 (pa_cons (pv 0) (pa_cons (pe_lst (pa_cons pe_int (pa_cons pe_int (pa_cons pe_int (pa_cons pe_int (pa_cons (pe_un un_neg pe_int) (pa_cons (pe_un un_neg pe_int) (pa_cons (pe_op op_sub pe_int (pe_own o_law_take (hr0.mono (by decide)) rfl pass0 (pa_cons (pv 0) (pa_cons pe_int pa_nil)))) (pa_cons pe_int (pa_cons (pe_un un_neg pe_int) pa_nil)))))))))) pa_nil))) pa_nil)))))) pss_nil)
      (pss_cons (ps_set (i := 5) sc_law_tree.nd rfl (Or.inl rfl) (pe_own o_law_of hr0 rfl pass0 (pa_cons (pv 0) (pa_cons (pe_lst (pa_cons pe_str (pa_cons pe_str (pa_cons pe_str (pa_cons pe_str (pa_cons pe_str (pa_cons pe_str pa_nil))))))) pa_nil))))
      (pss_one (ps_ret (pe_tup (pa_cons (pv 5) (pa_cons (pv 4) (pa_cons (pe_own o_law_tree hr rfl pass0 (pa_cons (pv 0) (pa_cons (pv 1) (pa_cons (pe_callB (call_max2 rfl) (by rfl) T.f_max (by decide +kernel) (pa_cons pe_int (pa_cons (pe_op op_sub (pe_op op_sub (pv 2) pe_int) (pe_own o_law_take (hr0.mono (by decide)) rfl pass0 (pa_cons (pv 0) (pa_cons pe_int pa_nil)))) pa_nil))) pa_nil)))) pa_nil)))))))))))) , ?_⟩
  have tkB : ∀ {H1 H2 : Hp}, Draw H1 d → But d H1 H2 → TupK H1 H2 := fun D B => But.tk D B
  refine ⟨_, rfl, d, 9, rfl, D, by decide, by decide, fun fork H1 f0 f9 D1 B1 => ?_⟩
  refine ⟨fun σ' H' => σ' = [some (.ref d), some (.ref ln), some (.int (deep : Int)), some (.int fork), none, none] ∧ H' = H1 ∧ deep ≠ 0, ?_, ?_⟩
  · have leaf : ∀ Mid : L2.St → Hp → Prop, tSeq (tIfS (tAnd (tTest (tOp (rNeD K) (tVar 1) (tLst tNil))) (tTest (tOp (rI0 fun i j => V.bl (decide (j < i))) (tCall spTake [] E0 (tCons (tVar 0) (tCons (tC (V.int 4)) tNil))) (tC (V.int 0)))))
      (tRet (tTup (tCons (tC (V.str "name")) (tCons (tCall (spOf K) [] E0 (tCons (tVar 0) (tCons (tVar 1) tNil))) tNil)))) tNext)
      (tRet (tTup (tCons (tC (V.str "number")) (tCons (tCall (spOf K) [] E0 (tCons (tVar 0) (tCons (tLst (tCons (tC (V.int 0)) (tCons (tC (V.int 1)) (tCons (tC (V.int 2)) (tCons (tC (V.int 97)) (tCons (tCall spTake [] E0 (tCons (tVar 0) (tCons (tC (V.int 1000000)) tNil))) tNil)))))) tNil))) tNil))))
      { nx := Mid, rt := Q } [some (.ref d), some (.ref ln), some (.int (deep : Int)), some (.int fork), none, none] H1 := fun Mid => by
      have hS1 := B1.seq nl hS
      refine ⟨_, rfl, (by show 0 ≤ sizeLine; decide), fun p hp => ⟨.list (ns.map PyData.str), .list [], .lst ((same_upd hp).seq hS1) (dp_strs ns), .lst (SqL.of upd_same) .nil, sh_strs fun y hy => name_ascii (hn y hy), rfl, _, rfl, ?_⟩⟩
      have D2 := D1.same (same_upd (o := .lst []) hp)
      have B2 := B1.trans (But.same (same_upd (o := .lst []) hp))
      generalize L2.upd H1 p (.lst []) = H2 at *
      rw [eqv_nilS, decide_eq_false (show ns ≠ [] from fun z => by rw [z] at n0; exact absurd n0 (by decide))]
      refine iteT ⟨_, rfl, d, 4, rfl, D2, by decide, by decide, fun m H3 m0 m1 D3 B3 => ⟨_, _, rfl, rfl, _, rfl, ite2 (fun _ => ?_) (fun _ => ?_)⟩⟩
      · have B13 := B2.trans B3
        refine ⟨_, rfl, _, rfl, d, ln, _, rfl, D3, B13.seq nl hS, nl, by rw [List.length_map]; exact n0, by rw [List.length_map]; omega, fun x H4 hx D4 B4 => ⟨by show 2 ≤ sizeLine; decide, fun a ha => ?_⟩⟩
        obtain ⟨y, hy, rfl⟩ := List.mem_map.mp hx
        exact k (.name (TL.tl y)) a _ (by cases deep <;> exact hn y hy) ⟨y, upd_same, rfl⟩ (D4.same (same_upd ha)) ((B13.trans B4).trans (But.same (same_upd ha)))
      · have B13 := B2.trans B3
        refine ⟨_, rfl, _, rfl, d, 1000000, rfl, D3, by decide, by decide, fun v H4 v0 v1 D4 B4 => ⟨by show 5 ≤ sizeLine; decide, fun p hp => ?_⟩⟩
        refine ⟨d, p, _, rfl, D4.same (same_upd hp), SqL.of upd_same, D4.ne hp, (by show 0 < 5; decide), (by show 5 ≤ 1000; decide), fun x H5 hx D5 B5 => ⟨by show 2 ≤ sizeLine; decide, fun a ha => ?_⟩⟩
        obtain ⟨u, rfl, hu⟩ : ∃ u : Nat, x = .int (u : Int) ∧ u < 1000000 := by
          obtain ⟨v', rfl⟩ := Int.eq_ofNat_of_zero_le v0
          simp at hx
          rcases hx with rfl | rfl | rfl | rfl | rfl
          · exact ⟨0, rfl, by decide⟩
          · exact ⟨1, rfl, by decide⟩
          · exact ⟨2, rfl, by decide⟩
          · exact ⟨97, rfl, by decide⟩
          · exact ⟨v', rfl, by omega⟩
        exact k (.num u) a _ (by cases deep <;> exact hu) upd_same (D5.same (same_upd ha)) ((((B13.trans B4).trans (But.same (same_upd hp))).trans B5).trans (But.same (same_upd ha)))
    refine ⟨_, rfl, rfl, _, rfl, ?_⟩
    by_cases h0 : deep = 0
    · subst h0
      exact iteT (iteT (leaf _))
    · rw [decide_eq_false (fun z => h0 (by have := V.int.inj z; omega))]
      exact iteF ⟨_, rfl, _, _, rfl, rfl, _, rfl, ite2 (fun _ => leaf _) (fun _ => ⟨rfl, rfl, h0⟩)⟩
  · rintro σ' H' ⟨rfl, rfl, hdeep⟩
    obtain ⟨dp, rfl⟩ : ∃ dp, deep = dp + 1 := ⟨deep - 1, by omega⟩
    obtain ⟨n2, rfl⟩ : ∃ n2, n = n2 + 1 := ⟨n - 1, by omega⟩
    refine ⟨_, rfl, _, rfl, _, rfl, _, _, rfl, rfl, d, ln, ns, dp, by show [V.ref d, V.ref ln, V.int (((dp + 1 : Nat) : Int) - 1)] = _; rw [show ((dp + 1 : Nat) : Int) - 1 = (dp : Int) by omega], by omega, by omega, D1, nl, B1.seq nl hS, n0, n3, hn, fun t1 a1 H2 ok1 x1 D2 B2 => ?_⟩
    have B12 := B1.trans B2
    refine ⟨_, rfl, rfl, _, rfl, ite2 (fun _ => ?_) (fun _ => ?_)⟩
    · refine ⟨_, rfl, (by show 2 ≤ sizeLine; decide), fun a ha => ?_⟩
      exact k (.turned t1) a _ ok1 ⟨a1, upd_same, x1.keep (same_tk (same_upd ha))⟩ (D2.same (same_upd ha)) (B12.trans (But.same (same_upd ha)))
    refine ⟨_, rfl, rfl, _, rfl, ite2 (fun _ => ?_) (fun _ => ?_)⟩
    · refine ⟨_, rfl, _, rfl, _, rfl, _, rfl, _, rfl, d, 15, rfl, D2, by decide, by decide, fun m H3 m0 m1 D3 B3 => ⟨_, _, rfl, rfl, _, rfl, by show 9 ≤ sizeLine; decide, fun p hp => ?_⟩⟩
      refine ⟨d, p, _, rfl, D3.same (same_upd hp), SqL.of upd_same, D3.ne hp, (by show 0 < 9; decide), (by show 9 ≤ 1000; decide), fun x H4 hx D4 B4 => ⟨by show 3 ≤ sizeLine; decide, fun a ha => ?_⟩⟩
      obtain ⟨e, rfl, he⟩ : ∃ e : Int, x = .int e ∧ e.natAbs < 1000000 := by
        simp at hx
        rcases hx with rfl | rfl | rfl | rfl | rfl | rfl | rfl | rfl | rfl
        · exact ⟨0, rfl, by decide⟩
        · exact ⟨1, rfl, by decide⟩
        · exact ⟨2, rfl, by decide⟩
        · exact ⟨3, rfl, by decide⟩
        · exact ⟨-1, rfl, by decide⟩
        · exact ⟨-2, rfl, by decide⟩
        · exact ⟨7 - m, rfl, by omega⟩
        · exact ⟨999999, rfl, by decide⟩
        · exact ⟨-999999, rfl, by decide⟩
      have B24 := (B3.trans (But.same (same_upd hp))).trans B4
      have x4 := (x1.keep (But.tk D2 B24)).keep (same_tk (same_upd (o := .tup [.str "power", .ref a1, .int e]) ha))
      exact k (.power t1 e) a _ ⟨he, ok1⟩ ⟨a1, upd_same, x4⟩ (D4.same (same_upd ha)) ((B12.trans B24).trans (But.same (same_upd ha)))
    · refine ⟨_, rfl, by show 6 ≤ sizeLine; decide, fun p hp => ?_⟩
      refine ⟨d, p, _, rfl, D2.same (same_upd hp), SqL.of upd_same, D2.ne hp, by decide, by decide, fun x H3 hx D3 B3 => ?_⟩
      obtain ⟨op, rfl⟩ : ∃ op : Op, x = .str (opS op) := by
        simp at hx
        rcases hx with rfl | rfl | rfl | rfl | rfl | rfl
        · exact ⟨.plus, rfl⟩
        · exact ⟨.minus, rfl⟩
        · exact ⟨.times, rfl⟩
        · exact ⟨.plus, rfl⟩
        · exact ⟨.times, rfl⟩
        · exact ⟨.over, rfl⟩
      have B23 := (But.same (d := d) (same_upd (o := .lst [.str "plus", .str "minus", .str "times", .str "plus", .str "times", .str "over"]) hp)).trans B3
      have x3 := x1.keep (But.tk D2 B23)
      refine ⟨_, rfl, _, rfl, _, rfl, _, rfl, _, rfl, _, _, rfl, rfl, _, rfl, d, 2, rfl, D3, by decide, by decide, fun m H4 m0 m1 D4 B4 => ?_⟩
      have x4 := x3.keep (But.tk D3 B4)
      have B14 := (B12.trans B23).trans B4
      refine ⟨_, _, rfl, rfl, _, _, rfl, d, ln, ns, dp - m.toNat, ?_, by omega, by omega, D4, nl, B14.seq nl hS, n0, n3, hn, fun t2 a2 H5 ok2 x2 D5 B5 => ⟨by show 3 ≤ sizeLine; decide, fun a ha => ?_⟩⟩
      · show [V.ref d, V.ref ln, V.int (if ((dp + 1 : Nat) : Int) - 1 - m > 0 then ((dp + 1 : Nat) : Int) - 1 - m else 0)] = _
        by_cases g : ((dp + 1 : Nat) : Int) - 1 - m > 0
        · rw [if_pos g, show ((dp + 1 : Nat) : Int) - 1 - m = ((dp - m.toNat : Nat) : Int) by omega]
        · rw [if_neg g, show dp - m.toNat = 0 by omega]
          rfl
      · have s5 := same_upd (o := .tup [.str (opS op), .ref a1, .ref a2]) ha
        exact k (.bin op t1 t2) a _ ⟨ok1, ok2.le (by omega)⟩ ⟨a1, a2, upd_same, (x4.keep (But.tk D4 B5)).keep (same_tk s5), x2.keep (same_tk s5)⟩ (D5.same s5) ((B14.trans B5).trans (But.same s5))
end
end Xk
end
section
set_option Elab.async false
set_option linter.all false
/-! no text that is read as a tree has fewer open brackets than the tree wants -/
namespace Xp
def isBin : Tr → Nat
  | .bin _ _ _ => 1
  | _ => 0
def isWeak : Tr → Nat
  | .bin k _ _ => if k.strong then 0 else 1
  | _ => 0
def need : Tr → Nat
  | .name _ => 0
  | .num _ => 0
  | .turned t => need t + isBin t
  | .power t _ => need t + isBin t
  | .bin k a b => if k.strong then (need a + isWeak a) + (need b + isBin b) else need a + (need b + isWeak b)
theorem weak_bin (t : Tr) : isWeak t ≤ isBin t ∧ isBin t ≤ 1 := by
  cases t with
  | bin k a b =>
    show (if k.strong then 0 else 1) ≤ 1 ∧ (1 : Nat) ≤ 1
    cases k.strong <;> decide
  | _ => exact ⟨Nat.le_refl _, Nat.zero_le _⟩
theorem need_s {k : Op} (h : k.strong = true) (a b : Tr) : need (.bin k a b) = (need a + isWeak a) + (need b + isBin b) ∧ isWeak (.bin k a b) = 0 := by
  constructor
  · rw [need, if_pos h]
  · rw [isWeak, if_pos h]
theorem need_w {k : Op} (h : k.strong = false) (a b : Tr) : need (.bin k a b) = need a + (need b + isWeak b) := by
  rw [need, if_neg (by rw [h]; decide)]
/-- the parts on the heap below, with the brackets that they took -/
inductive Stk : List Tr → List Wt → Nat → Prop
  | nil : Stk [] [] 0
  | br {ts ws n} (h : Stk ts ws n) : Stk ts (.br :: ws) (n + 1)
  | strong {ts ws n} (k : Op) (a : Tr) (hk : k.strong = true) (h : Stk ts ws n) (hs : NoS ws) : Stk (a :: ts) (.op k :: ws) (n + (need a + isWeak a))
  | weak {ts ws n} (k : Op) (a : Tr) (hk : k.strong = false) (h : Stk ts ws n) (hs : NoW ws) : Stk (a :: ts) (.op k :: ws) (n + need a)
theorem fold1 {ts : List Tr} {ws : List Wt} {n : Nat} (h : Stk ts ws n) (t : Tr) : ∃ t' ts' ws' m, fold true (t :: ts) ws = (t' :: ts', ws') ∧ Stk ts' ws' m ∧ NoS ws' ∧ m + (need t' + isWeak t') ≤ n + (need t + isBin t) := by
  have wb := weak_bin t
  cases h with
  | nil => exact ⟨t, [], [], 0, fold_s trivial, .nil, trivial, by omega⟩
  | br h => exact ⟨t, ts, _, _, fold_s trivial, .br h, trivial, by omega⟩
  | weak k a hk h hs => exact ⟨t, _, _, _, fold_s hk, .weak k a hk h hs, hk, by omega⟩
  | @strong ts ws n k a hk h hs =>
    have nd := need_s hk a t
    refine ⟨.bin k a t, ts, ws, n, ?_, h, hs, by rw [nd.1, nd.2]; omega⟩
    rw [fold_op (by rw [hk]; rfl), fold_s hs]
theorem fold0 {ts : List Tr} {ws : List Wt} {n : Nat} (h : Stk ts ws n) (t : Tr) : ∃ t' ts' ws' m, fold false (t :: ts) ws = (t' :: ts', ws') ∧ Stk ts' ws' m ∧ NoW ws' ∧ m + need t' ≤ n + (need t + isBin t) := by
  obtain ⟨t1, ts1, ws1, m, e, h1, s1, l1⟩ := fold1 h t
  rw [← fold_two, e]
  show ∃ t' ts' ws' m, fold false (t1 :: ts1) ws1 = (t' :: ts', ws') ∧ _
  cases h1 with
  | nil => exact ⟨t1, [], [], 0, fold_w trivial, .nil, trivial, by omega⟩
  | br h1 => exact ⟨t1, _, _, _, fold_w trivial, .br h1, trivial, by omega⟩
  | strong k a hk h1 hs =>
    have s1 : k.strong = false := s1
    rw [hk] at s1
    cases s1
  | @weak ts ws n k a hk h1 hs =>
    have nd := need_w hk a t1
    refine ⟨.bin k a t1, ts, ws, n, ?_, h1, hs, by rw [nd]; omega⟩
    rw [fold_op (by simp), fold_w hs]
/-- what a state took in brackets -/
def Took (s : St) (n : Nat) : Prop := match s.aw with
  | .part => ∃ m, Stk s.ts s.ws m ∧ m ≤ n
  | _ => ∃ t ts m, s.ts = t :: ts ∧ Stk ts s.ws m ∧ m + (need t + isBin t) ≤ n
def isLp : Tk → Nat
  | .lp => 1
  | _ => 0
theorem took_step {s s' : St} {n : Nat} {x : Tk} (h : Took s n) (e : take s x = some s') : Took s' (n + isLp x) := by
  obtain ⟨ts, ws, ps, aw⟩ := s
  cases aw with
  | part =>
    obtain ⟨m, st, lm⟩ : ∃ m, Stk ts ws m ∧ m ≤ n := h
    cases x with
    | lp =>
      have e : some (⟨ts, .br :: ws, ps, .part⟩ : St) = some s' := e
      cases e
      exact ⟨m + 1, .br st, by show m + 1 ≤ n + 1; omega⟩
    | name w =>
      have e : some (⟨.name w :: ts, ws, ps + 1, .sign⟩ : St) = some s' := e
      cases e
      exact ⟨.name w, ts, m, rfl, st, by show m + (0 + 0) ≤ n + 0; omega⟩
    | fig v =>
      have e : some (⟨.num v :: ts, ws, ps + 1, .sign⟩ : St) = some s' := e
      cases e
      exact ⟨.num v, ts, m, rfl, st, by show m + (0 + 0) ≤ n + 0; omega⟩
    | rp => cases e
    | op k => cases e
    | hat => cases e
    | tick => cases e
  | sign =>
    obtain ⟨t, ts0, m, e0, st, lm⟩ : ∃ t ts0 m, ts = t :: ts0 ∧ Stk ts0 ws m ∧ m + (need t + isBin t) ≤ n := h
    cases e0
    cases x with
    | lp => cases e
    | name w => cases e
    | fig v => cases e
    | rp =>
      obtain ⟨t1, ts1, ws1, m1, ef, st1, nw, l1⟩ := fold0 st t
      have e : (match fold false (t :: ts0) ws with
        | (ts, _ :: ws) => some (⟨ts, ws, ps, .sign⟩ : St)
        | (_, []) => none) = some s' := e
      rw [ef] at e
      cases st1 with
      | nil => cases e
      | br st1 =>
        cases e
        have := weak_bin t1
        exact ⟨t1, ts1, _, rfl, st1, by show _ ≤ n + 0; omega⟩
      | strong => exact nw.elim
      | weak => exact nw.elim
    | op k =>
      have e : (if ps + 2 > most then none else match fold k.strong (t :: ts0) ws with
        | (ts, ws) => some (⟨ts, .op k :: ws, ps + 1, .part⟩ : St)) = some s' := e
      split at e
      · cases e
      · cases hk : k.strong with
        | true =>
          obtain ⟨t1, ts1, ws1, m1, ef, st1, nw, l1⟩ := fold1 st t
          rw [hk, ef] at e
          cases e
          exact ⟨_, .strong k t1 hk st1 nw, by show _ ≤ n + 0; omega⟩
        | false =>
          obtain ⟨t1, ts1, ws1, m1, ef, st1, nw, l1⟩ := fold0 st t
          rw [hk, ef] at e
          cases e
          exact ⟨_, .weak k t1 hk st1 nw, by show _ ≤ n + 0; omega⟩
    | hat =>
      have e : (if ps = most then none else some (⟨t :: ts0, ws, ps + 1, .ex⟩ : St)) = some s' := e
      split at e
      · cases e
      · cases e
        exact ⟨t, ts0, m, rfl, st, by show _ ≤ n + 0; omega⟩
    | tick =>
      have e : (if ps = most then none else some (⟨.turned t :: ts0, ws, ps + 1, .sign⟩ : St)) = some s' := e
      split at e
      · cases e
      · cases e
        exact ⟨.turned t, ts0, m, rfl, st, by show m + (need t + isBin t + 0) ≤ n + 0; omega⟩
  | ex =>
    obtain ⟨t, ts0, m, e0, st, lm⟩ : ∃ t ts0 m, ts = t :: ts0 ∧ Stk ts0 ws m ∧ m + (need t + isBin t) ≤ n := h
    cases e0
    cases x with
    | fig v =>
      have e : some (⟨.power t v :: ts0, ws, ps, .sign⟩ : St) = some s' := e
      cases e
      exact ⟨.power t v, ts0, m, rfl, st, by show m + (need t + isBin t + 0) ≤ n + 0; omega⟩
    | op k =>
      cases k with
      | minus =>
        have e : some (⟨t :: ts0, ws, ps, .less⟩ : St) = some s' := e
        cases e
        exact ⟨t, ts0, m, rfl, st, by show _ ≤ n + 0; omega⟩
      | plus => cases e
      | times => cases e
      | over => cases e
    | lp => cases e
    | rp => cases e
    | name w => cases e
    | hat => cases e
    | tick => cases e
  | less =>
    obtain ⟨t, ts0, m, e0, st, lm⟩ : ∃ t ts0 m, ts = t :: ts0 ∧ Stk ts0 ws m ∧ m + (need t + isBin t) ≤ n := h
    cases e0
    cases x with
    | fig v =>
      have e : some (⟨.power t (-(v : Int)) :: ts0, ws, ps, .sign⟩ : St) = some s' := e
      cases e
      exact ⟨.power t (-(v : Int)), ts0, m, rfl, st, by show m + (need t + isBin t + 0) ≤ n + 0; omega⟩
    | op k => cases e
    | lp => cases e
    | rp => cases e
    | name w => cases e
    | hat => cases e
    | tick => cases e
theorem took_end {s : St} {n : Nat} {t : Tr} {ts : List Tr} (h : Took s n) (ha : s.aw = .sign) (e : fold false s.ts s.ws = (t :: ts, [])) : need t ≤ n := by
  obtain ⟨tr, ws, ps, aw⟩ := s
  cases ha
  obtain ⟨t0, ts0, m, e0, st, lm⟩ : ∃ t ts0 m, tr = t :: ts0 ∧ Stk ts0 ws m ∧ m + (need t + isBin t) ≤ n := h
  cases e0
  obtain ⟨t1, ts1, ws1, m1, ef, st1, nw, l1⟩ := fold0 st t0
  have e : fold false (t0 :: ts0) ws = (t :: ts, []) := e
  rw [ef] at e
  cases e
  omega
end Xp
end
section
set_option Elab.async false
set_option linter.all false
set_option maxRecDepth 100000
set_option maxHeartbeats 4000000
namespace Xk
open PySem PySem.Spec PyProof.Rows L2 Xh LamX NdefX
/-! ### texts read as trees -/
open Xp (Tr Op Wt Tk Aw)
theorem same_flat {K : PySem.W.Frag} {H : Hp} {v : V} (h : flatV v = true) : ∀ n, SameAt K H n v v
  | 0 => ⟨h, rfl⟩
  | _ + 1 => .inl ⟨h, rfl⟩
theorem same_two {K : PySem.W.Frag} {H : Hp} {n : Nat} {a b : Addr} {xs ys : List V} (ha : H a = some (.tup xs)) (hb : H b = some (.tup ys)) (hl : xs.length = ys.length) (hx : xs.length ≤ 1000) (h : ∀ (i : Nat) (x y : V), xs[i]? = some x → ys[i]? = some y → SameAt K H n x y) : SameAt K H (n + 1) (.ref a) (.ref b) :=
  .inr ⟨a, b, xs, ys, rfl, rfl, .inr ⟨.inl (.inl ha), .inl (.inl hb)⟩, hl, hx, h⟩
theorem same_tree {K : PySem.W.Frag} {H : Hp} : ∀ {n : Nat} {t : Tr} {a b : Addr}, OkT n t → TreeAt H a t → TreeAt H b t → SameAt K H (n + 1) (.ref a) (.ref b) := by
  intro n t
  induction t generalizing n with
  | name w =>
    rintro a b _ ⟨s1, h1, e1⟩ ⟨s2, h2, e2⟩
    obtain rfl : s1 = s2 := TL.ext_tl (e1.trans e2.symm)
    refine same_two h1 h2 rfl (by show 2 ≤ 1000; decide) fun i x y hx hy => ?_
    rw [hx] at hy
    cases hy
    match i, hx with
    | 0, hx => cases hx; exact same_flat rfl _
    | 1, hx => cases hx; exact same_flat rfl _
  | num v =>
    rintro a b _ h1 h2
    refine same_two h1 h2 rfl (by show 2 ≤ 1000; decide) fun i x y hx hy => ?_
    rw [hx] at hy
    cases hy
    match i, hx with
    | 0, hx => cases hx; exact same_flat rfl _
    | 1, hx => cases hx; exact same_flat rfl _
  | turned t ih =>
    rintro a b ok ⟨c1, h1, x1⟩ ⟨c2, h2, x2⟩
    cases n with
    | zero => exact ok.elim
    | succ n =>
      refine same_two h1 h2 rfl (by show 2 ≤ 1000; decide) fun i x y hx hy => ?_
      match i, hx, hy with
      | 0, hx, hy => cases hx; cases hy; exact same_flat rfl _
      | 1, hx, hy => cases hx; cases hy; exact ih ok x1 x2
  | power t e ih =>
    rintro a b ok ⟨c1, h1, x1⟩ ⟨c2, h2, x2⟩
    cases n with
    | zero => exact ok.elim
    | succ n =>
      refine same_two h1 h2 rfl (by show 3 ≤ 1000; decide) fun i x y hx hy => ?_
      match i, hx, hy with
      | 0, hx, hy => cases hx; cases hy; exact same_flat rfl _
      | 1, hx, hy => cases hx; cases hy; exact ih ok.2 x1 x2
      | 2, hx, hy => cases hx; cases hy; exact same_flat rfl _
  | bin k t u ih1 ih2 =>
    rintro a b ok ⟨c1, d1, h1, x1, y1⟩ ⟨c2, d2, h2, x2, y2⟩
    cases n with
    | zero => exact ok.elim
    | succ n =>
      refine same_two h1 h2 rfl (by show 3 ≤ 1000; decide) fun i x y hx hy => ?_
      match i, hx, hy with
      | 0, hx, hy => cases hx; cases hy; exact same_flat rfl _
      | 1, hx, hy => cases hx; cases hy; exact ih1 ok.1 x1 x2
      | 2, hx, hy => cases hx; cases hy; exact ih2 ok.2 y1 y2
theorem cost_le : ∀ {n : Nat} {t : Tr}, OkT n t → cost t + 1 ≤ 2 ^ (n + 1) := by
  intro n t
  induction t generalizing n with
  | name w => intro _; show 2 ≤ _; have := Nat.one_le_two_pow (n := n); rw [Nat.pow_succ]; omega
  | num v => intro _; show 2 ≤ _; have := Nat.one_le_two_pow (n := n); rw [Nat.pow_succ]; omega
  | turned t ih =>
    intro ok
    cases n with
    | zero => exact ok.elim
    | succ n =>
      have := ih (n := n) ok
      have := Nat.one_le_two_pow (n := n + 1)
      show cost t + 1 + 1 ≤ _
      rw [Nat.pow_succ]
      omega
  | power t e ih =>
    intro ok
    cases n with
    | zero => exact ok.elim
    | succ n =>
      have := ih (n := n) ok.2
      have := Nat.one_le_two_pow (n := n + 1)
      show cost t + 1 + 1 ≤ _
      rw [Nat.pow_succ]
      omega
  | bin k t u ih1 ih2 =>
    intro ok
    cases n with
    | zero => exact ok.elim
    | succ n =>
      have := ih1 (n := n) ok.1
      have := ih2 (n := n) ok.2
      show cost t + 1 + cost u + 1 ≤ _
      rw [Nat.pow_succ (m := n + 1)]
      omega
def trD : Tr → PyData
  | .name w => .tuple [.str "name", .str ⟨w.toArray⟩]
  | .num n => .tuple [.str "number", .int (n : Int)]
  | .turned t => .tuple [.str "turned", trD t]
  | .power t e => .tuple [.str "power", trD t, .int e]
  | .bin k a b => .tuple [.str (opS k), trD a, trD b]
theorem dp_tree {K : PySem.W.Frag} {H : Hp} : ∀ {t : Tr} {a : Addr}, TreeAt H a t → Dp K H (.ref a) (trD t) := by
  intro t
  induction t with
  | name w =>
    rintro a ⟨s, h, rfl⟩
    exact .tup (.inl (.inl h)) (.cons (.str _) (.cons (.str s) .nil))
  | num v =>
    rintro a h
    exact .tup (.inl (.inl h)) (.cons (.str _) (.cons (.int _) .nil))
  | turned t ih =>
    rintro a ⟨c, h, x⟩
    exact .tup (.inl (.inl h)) (.cons (.str _) (.cons (ih x) .nil))
  | power t e ih =>
    rintro a ⟨c, h, x⟩
    exact .tup (.inl (.inl h)) (.cons (.str _) (.cons (ih x) (.cons (.int _) .nil)))
  | bin k t u ih1 ih2 =>
    rintro a ⟨c, d, h, x, y⟩
    exact .tup (.inl (.inl h)) (.cons (.str _) (.cons (ih1 x) (.cons (ih2 y) .nil)))
theorem read_ok {CT : Addr} {H : Hp} {Q : VK} {E : XK} {y : Str} {t : Tr} (hr : readT (TL.tl y) = .inr t) (ly : y.length ≤ 5000) (h : ∀ a H', Same H H' → TreeAt H' a t → Q (.ref a) H') : spRead CT [.str y] H Q E :=
  ⟨y, rfl, ly, fun t' a H' e s x => by rw [hr] at e; cases e; exact h a H' s x, fun k e => by rw [hr] at e; cases e⟩
theorem shaped_lay {d : PyData} (h : SeqAt.shaped d = true) : d.canLay0 = true := by
  unfold SeqAt.shaped at h
  exact (Bool.and_eq_true_iff.mp h).1
theorem ne_tree {K : PySem.W.Frag} {H : Hp} {Q : VK} {a b : Addr} {t : Tr} (sh : SeqAt.shaped (trD t) = true) (xa : TreeAt H a t) (xb : TreeAt H b t) (q : Q (.bl false) H) : rNeD K (.ref a) (.ref b) H Q :=
  ⟨trD t, trD t, dp_tree xa, dp_tree xb, sh, sh, by rw [SeqAt.eqv_refl _ (shaped_lay sh)]; exact q⟩
theorem eq_tree {K : PySem.W.Frag} {H : Hp} {Q : VK} {a b : Addr} {t : Tr} (sh : SeqAt.shaped (trD t) = true) (xa : TreeAt H a t) (xb : TreeAt H b t) (q : Q (.bl true) H) : rEqD K (.ref a) (.ref b) H Q :=
  ⟨trD t, trD t, dp_tree xa, dp_tree xb, sh, sh, by rw [SeqAt.eqv_refl _ (shaped_lay sh)]; exact q⟩
/-- the leaves are as the reader makes them -/
def Lv : Tr → Prop
  | .name w => nameB w = true
  | .num _ => True
  | .turned t => Lv t
  | .power t _ => Lv t
  | .bin _ a b => Lv a ∧ Lv b
def sumC : List Tr → Nat
  | [] => 0
  | t :: ts => cost t + sumC ts
theorem fold_sum (st : Bool) : ∀ (ws : List Wt) (ts : List Tr), (∀ t ∈ ts, Lv t) → (∀ t ∈ (Xp.fold st ts ws).1, Lv t) ∧ sumC (Xp.fold st ts ws).1 + ops (Xp.fold st ts ws).2 = sumC ts + ops ws
  | [], ts, h => by rw [fold_nil]; exact ⟨h, rfl⟩
  | .br :: ws, ts, h => by
    rw [fold_br]
    exact ⟨h, rfl⟩
  | .op k :: ws, ts, h => by
    by_cases g : Xp.ahead (.op k) st = true
    · match ts, h with
      | b :: a :: ts, h =>
        rw [Xp.fold_op (show (k.strong || !st) = true from g)]
        have := fold_sum st ws (.bin k a b :: ts) fun t ht => by
          rcases List.mem_cons.mp ht with rfl | ht
          · exact ⟨h a (List.mem_cons_of_mem _ List.mem_cons_self), h b List.mem_cons_self⟩
          · exact h t (List.mem_cons_of_mem _ (List.mem_cons_of_mem _ ht))
        refine ⟨this.1, this.2.trans ?_⟩
        show (cost a + 1 + cost b) + sumC ts + ops ws = cost b + (cost a + sumC ts) + (ops ws + 1)
        omega
      | [a], h => simp [Xp.fold, g]; exact h a List.mem_cons_self
      | [], h => simp [Xp.fold, g]
    · rw [fold_not g]
      exact ⟨h, rfl⟩
def pend : Aw → Nat
  | .ex => 1
  | .less => 1
  | _ => 0
def Bnd (s : Xp.St) : Prop := (∀ t ∈ s.ts, Lv t) ∧ sumC s.ts + ops s.ws + pend s.aw ≤ s.ps ∧ s.ps + (1 - has s.aw) ≤ 40
theorem lv_cons {t : Tr} {ts : List Tr} (h : Lv t) (hs : ∀ u ∈ ts, Lv u) : ∀ u ∈ t :: ts, Lv u := fun u hu => by
  rcases List.mem_cons.mp hu with rfl | hu
  · exact h
  · exact hs u hu
theorem bnd_step {s s' : Xp.St} {x : Tk} (b : Bnd s) (hx : ∀ w, x = .name w → nameB w = true) (h : Xp.take s x = some s') : Bnd s' := by
  obtain ⟨ts, ws, ps, aw⟩ := s
  obtain ⟨b1, b2, b3⟩ := b
  have b1 : ∀ t ∈ ts, Lv t := b1
  have b2 : sumC ts + ops ws + pend aw ≤ ps := b2
  have b3 : ps + (1 - has aw) ≤ 40 := b3
  cases aw with
  | part =>
    have b3 : ps + 1 ≤ 40 := b3
    have b2 : sumC ts + ops ws + 0 ≤ ps := b2
    cases x with
    | lp => cases h; exact ⟨b1, b2, b3⟩
    | name w => cases h; exact ⟨lv_cons (hx w rfl) b1, by show 1 + sumC ts + ops ws + 0 ≤ ps + 1; omega, b3⟩
    | fig n => cases h; exact ⟨lv_cons (t := .num n) trivial b1, by show 1 + sumC ts + ops ws + 0 ≤ ps + 1; omega, b3⟩
    | rp => cases h
    | op k => cases h
    | hat => cases h
    | tick => cases h
  | sign =>
    have b3 : ps + 0 ≤ 40 := b3
    have b2 : sumC ts + ops ws + 0 ≤ ps := b2
    cases x with
    | lp => cases h
    | name w => cases h
    | fig v => cases h
    | rp =>
      have f := fold_sum false ws ts b1
      have h : (match Xp.fold false ts ws with
        | (ts, _ :: ws) => some (⟨ts, ws, ps, .sign⟩ : Xp.St)
        | (_, []) => none) = some s' := h
      revert h f
      generalize Xp.fold false ts ws = q
      obtain ⟨ts1, ws1⟩ := q
      intro f h
      cases ws1 with
      | nil => cases h
      | cons w ws1 =>
        cases h
        refine ⟨f.1, ?_, b3⟩
        have f2 : sumC ts1 + ops (w :: ws1) = sumC ts + ops ws := f.2
        have f3 : ops ws1 ≤ ops (w :: ws1) := by
          cases w with
          | br => exact Nat.le_refl _
          | op k => exact Nat.le_succ _
        show sumC ts1 + ops ws1 + 0 ≤ ps
        omega
    | op k =>
      have f := fold_sum k.strong ws ts b1
      have h : (if ps + 2 > Xp.most then none else match Xp.fold k.strong ts ws with
        | (ts, ws) => some (⟨ts, .op k :: ws, ps + 1, .part⟩ : Xp.St)) = some s' := h
      split at h
      · cases h
      · rename_i hp
        have hp : ¬ ps + 2 > 40 := hp
        cases h
        refine ⟨f.1, ?_, by show ps + 1 + 1 ≤ 40; omega⟩
        show sumC (Xp.fold k.strong ts ws).1 + (ops (Xp.fold k.strong ts ws).2 + 1) + 0 ≤ ps + 1
        have := f.2
        omega
    | hat =>
      have h : (if ps = Xp.most then none else some (⟨ts, ws, ps + 1, .ex⟩ : Xp.St)) = some s' := h
      split at h
      · cases h
      · rename_i hp
        have hp : ¬ ps = 40 := hp
        cases h
        exact ⟨b1, by show sumC ts + ops ws + 1 ≤ ps + 1; omega, by show ps + 1 + 0 ≤ 40; omega⟩
    | tick =>
      have h : (if ps = Xp.most then none else match ts with
        | t :: ts => some (⟨.turned t :: ts, ws, ps + 1, .sign⟩ : Xp.St)
        | [] => none) = some s' := h
      split at h
      · cases h
      · rename_i hp
        have hp : ¬ ps = 40 := hp
        cases ts with
        | nil => cases h
        | cons t ts =>
          cases h
          refine ⟨lv_cons (t := .turned t) (b1 t List.mem_cons_self) fun u hu => b1 u (List.mem_cons_of_mem _ hu), ?_, by show ps + 1 + 0 ≤ 40; omega⟩
          have b2 : cost t + sumC ts + ops ws + 0 ≤ ps := b2
          show cost t + 1 + sumC ts + ops ws + 0 ≤ ps + 1
          omega
  | ex =>
    have b3 : ps + 0 ≤ 40 := b3
    have b2 : sumC ts + ops ws + 1 ≤ ps := b2
    cases x with
    | fig v =>
      cases ts with
      | nil => cases h
      | cons t ts =>
        cases h
        refine ⟨lv_cons (t := .power t v) (b1 t List.mem_cons_self) fun u hu => b1 u (List.mem_cons_of_mem _ hu), ?_, b3⟩
        have b2 : cost t + sumC ts + ops ws + 1 ≤ ps := b2
        show cost t + 1 + sumC ts + ops ws + 0 ≤ ps
        omega
    | op k =>
      cases k with
      | minus => cases h; exact ⟨b1, b2, b3⟩
      | plus => cases h
      | times => cases h
      | over => cases h
    | lp => cases h
    | rp => cases h
    | name w => cases h
    | hat => cases h
    | tick => cases h
  | less =>
    have b3 : ps + 0 ≤ 40 := b3
    have b2 : sumC ts + ops ws + 1 ≤ ps := b2
    cases x with
    | fig v =>
      cases ts with
      | nil => cases h
      | cons t ts =>
        cases h
        refine ⟨lv_cons (t := .power t (-(v : Int))) (b1 t List.mem_cons_self) fun u hu => b1 u (List.mem_cons_of_mem _ hu), ?_, b3⟩
        have b2 : cost t + sumC ts + ops ws + 1 ≤ ps := b2
        show cost t + 1 + sumC ts + ops ws + 0 ≤ ps
        omega
    | op k => cases h
    | lp => cases h
    | rp => cases h
    | name w => cases h
    | hat => cases h
    | tick => cases h
theorem tk_name {w v : List Nat} (h : tkOf w = some (.name v)) : nameB v = true := by
  unfold tkOf at h
  split at h
  · rename_i g
    cases h
    exact g
  · split at h
    · cases h
    · unfold signTk at h
      split at h <;> cases h
theorem tk_lp {w : List Nat} (h : tkOf w = some .lp) : w = [40] := by
  unfold tkOf at h
  split at h
  · cases h
  · split at h
    · cases h
    · unfold signTk at h
      split at h
      · rfl
      all_goals cases h
def lpW : List (Nat × List Nat) → Nat
  | [] => 0
  | q :: r => (if q.2 = [40] then 1 else 0) + lpW r
theorem lpW_app : ∀ (a b : List (Nat × List Nat)), lpW (a ++ b) = lpW a + lpW b
  | [], b => (Nat.zero_add _).symm
  | q :: a, b => by
    show (if q.2 = [40] then 1 else 0) + lpW (a ++ b) = (if q.2 = [40] then 1 else 0) + lpW a + lpW b
    rw [lpW_app a b, Nat.add_assoc]
theorem lp_step {s s' : Xp.St} {w : List Nat} {n : Nat} (h : tkS s w = some s') (t : Xp.Took s n) (b : Bnd s) : Xp.Took s' (n + (if w = [40] then 1 else 0)) ∧ Bnd s' := by
  unfold tkS at h
  cases e : tkOf w with
  | none =>
    rw [e] at h
    cases h
  | some x =>
    rw [e] at h
    have h : Xp.take s x = some s' := h
    refine ⟨?_, bnd_step b (fun v hv => tk_name (w := w) (by rw [e, hv])) h⟩
    have t1 := Xp.took_step t h
    cases x with
    | lp =>
      rw [if_pos (tk_lp e)]
      exact t1
    | _ =>
      by_cases g : w = [40]
      · rw [g] at e
        have : tkOf [40] = some .lp := rfl
        rw [this] at e
        cases e
      · rw [if_neg g]
        exact t1
theorem goW_lp : ∀ (ws : List (Nat × List Nat)) (s s' : Xp.St) (n : Nat), goW ws s = .inr s' → Xp.Took s n → Bnd s → Xp.Took s' (n + lpW ws) ∧ Bnd s'
  | [], s, s', n, h, t, b => by cases h; exact ⟨t, b⟩
  | q :: r, s, s', n, h, t, b => by
    cases e : tkS s q.2 with
    | none => rw [goW_none e] at h; cases h
    | some s1 =>
      rw [goW_some e] at h
      obtain ⟨t1, b1⟩ := lp_step e t b
      have := goW_lp r s1 s' _ h t1 b1
      rw [Nat.add_assoc] at this
      exact this
theorem lp_acc {acc : List Nat} (h : ∀ c ∈ acc, Xp.wordly c = true) (k : Nat) : lpW (Xp.flushP k acc) = 0 := by
  unfold Xp.flushP
  by_cases g : acc = []
  · rw [if_pos g]
    rfl
  · rw [if_neg g]
    show (if acc = [40] then 1 else 0) + 0 = 0
    rw [if_neg fun e => ?_]
    rw [e] at h
    exact absurd (h 40 List.mem_cons_self) (by decide)
theorem lp_ws : ∀ (l : List Nat) (k : Nat) (acc : List Nat), (∀ c ∈ acc, Xp.wordly c = true) → lpW (Xp.wsP k acc l) ≤ l.count 40
  | [], k, acc, h => by
    show lpW (Xp.flushP k acc) ≤ _
    rw [lp_acc h]
    exact Nat.zero_le _
  | c :: r, k, acc, h => by
    rw [Xp.wsP]
    by_cases g : Xp.wordly c = true
    · rw [if_pos g]
      have := lp_ws r (k + 1) (acc ++ [c]) fun d hd => by
        rcases List.mem_append.mp hd with hd | hd
        · exact h d hd
        · rw [List.mem_singleton.mp hd]
          exact g
      refine Nat.le_trans this ?_
      rw [List.count_cons]
      exact Nat.le_add_right _ _
    · rw [if_neg g, lpW_app, lpW_app, lp_acc h]
      have := lp_ws r (k + 1) [] (fun d hd => by cases hd)
      rw [List.count_cons]
      by_cases g2 : c = 32
      · rw [if_pos g2]
        show 0 + (0 + _) ≤ _
        omega
      · rw [if_neg g2]
        show 0 + (((if [c] = [40] then 1 else 0) + 0) + lpW (Xp.wsP (k + 1) [] r)) ≤ _
        by_cases g3 : c = 40
        · rw [g3]
          show 0 + ((1 + 0) + _) ≤ _ + 1
          omega
        · rw [if_neg (fun e => g3 (List.cons.inj e).1)]
          omega
/-- no text with fewer brackets than a tree wants is read as it -/
theorem read_need {l : List Nat} {t : Tr} (h : readT l = .inr t) : Xp.need t ≤ l.count 40 ∧ Lv t ∧ cost t ≤ 40 := by
  unfold readT at h
  cases e : goW (Xp.wsP 0 [] l) ⟨[], [], 0, .part⟩ with
  | inl k =>
    rw [e] at h
    cases h
  | inr s =>
    rw [e] at h
    obtain ⟨t1, b1⟩ := goW_lp _ _ _ 0 e ⟨0, .nil, Nat.le_refl _⟩ ⟨(fun t ht => by cases ht), Nat.le_refl _, by show 0 + 1 ≤ 40; decide⟩
    rw [Nat.zero_add] at t1
    have lw := lp_ws l 0 [] (fun c hc => by cases hc)
    have h : (match endS s with
      | some t => (.inr t : Nat ⊕ Tr)
      | none => .inl l.length) = .inr t := h
    cases e2 : endS s with
    | none =>
      rw [e2] at h
      cases h
    | some u =>
      rw [e2] at h
      cases h
      obtain ⟨ts, ws, ps, aw⟩ := s
      cases aw with
      | sign =>
        have f := fold_sum false ws ts b1.1
        have e2 : (match Xp.fold false ts ws with
          | (t :: _, []) => some t
          | _ => none) = some t := e2
        revert e2 f
        generalize ef : Xp.fold false ts ws = q
        obtain ⟨ts1, ws1⟩ := q
        intro f e2
        cases ws1 with
        | cons w ws1 => cases ts1 <;> cases e2
        | nil =>
          cases ts1 with
          | nil => cases e2
          | cons t0 ts1 =>
            cases e2
            have b2 : sumC ts + ops ws + 0 ≤ ps := b1.2.1
            have b3 : ps + 0 ≤ 40 := b1.2.2
            have f2 : cost t + sumC ts1 + 0 = sumC ts + ops ws := f.2
            exact ⟨Nat.le_trans (Xp.took_end t1 rfl ef) lw, f.1 t List.mem_cons_self, by omega⟩
      | part => cases e2
      | ex => cases e2
      | less => cases e2
theorem tr_depth : ∀ t : Tr, (trD t).depth ≤ cost t
  | .name w => by simp [trD, PyData.depth, PyData.depthAll, cost]
  | .num n => by simp [trD, PyData.depth, PyData.depthAll, cost]
  | .turned t => by
    have := tr_depth t
    simp [trD, PyData.depth, PyData.depthAll, cost]
    omega
  | .power t e => by
    have := tr_depth t
    simp [trD, PyData.depth, PyData.depthAll, cost]
    omega
  | .bin k a b => by
    have := tr_depth a
    have := tr_depth b
    simp [trD, PyData.depth, PyData.depthAll, cost]
    omega
theorem op_strOk (k : Op) : PyData.strOk (opS k) = true := by cases k <;> decide +kernel
theorem name_strOk {w : List Nat} (h : nameB w = true) : PyData.strOk ⟨w.toArray⟩ = true := by
  unfold nameB at h
  obtain ⟨h, h2⟩ := Bool.and_eq_true_iff.mp h
  unfold PyData.strOk
  rw [Array.all_eq_true]
  intro i hi
  have := List.all_eq_true.mp h2 (w.toArray[i]) (by simp)
  simp at this ⊢
  omega
theorem tr_lay : ∀ {t : Tr}, Lv t → (trD t).canLay0 = true
  | .name w, h => by
    have := name_strOk h
    simp [trD, PyData.canLay0, PyData.canLayAll0, this, show PyData.strOk (Str.ofString "name") = true by decide +kernel]
  | .num n, _ => by
    simp [trD, PyData.canLay0, PyData.canLayAll0, show PyData.strOk (Str.ofString "number") = true by decide +kernel]
  | .turned t, h => by
    have := tr_lay (t := t) h
    simp [trD, PyData.canLay0, PyData.canLayAll0, this, show PyData.strOk (Str.ofString "turned") = true by decide +kernel]
  | .power t e, h => by
    have := tr_lay (t := t) h
    simp [trD, PyData.canLay0, PyData.canLayAll0, this, show PyData.strOk (Str.ofString "power") = true by decide +kernel]
  | .bin k a b, h => by
    have h1 := tr_lay (t := a) h.1
    have h2 := tr_lay (t := b) h.2
    simp [trD, PyData.canLay0, PyData.canLayAll0, h1, h2, op_strOk k]
theorem told_lay {t : Tr} (h : Lv t) (c : cost t ≤ 40) : SeqAt.shaped (.tuple [.str "told", trD t]) = true := by
  have h1 := tr_lay h
  have h2 := tr_depth t
  unfold SeqAt.shaped
  rw [Bool.and_eq_true_iff]
  refine ⟨by simp [PyData.canLay0, PyData.canLayAll0, h1, show PyData.strOk (Str.ofString "told") = true by decide +kernel], decide_eq_true ?_⟩
  simp [PyData.depth, PyData.depthAll]
  omega
theorem ok_lv : ∀ {t : Tr} {n : Nat}, OkT n t → Lv t
  | .name w, _, h => by cases ‹Nat› <;> exact h
  | .num n, _, h => trivial
  | .turned t, 0, h => h.elim
  | .turned t, n + 1, h => ok_lv (t := t) (n := n) h
  | .power t e, 0, h => h.elim
  | .power t e, n + 1, h => ok_lv (t := t) (n := n) h.2
  | .bin k a b, 0, h => h.elim
  | .bin k a b, n + 1, h => ⟨ok_lv (t := a) (n := n) h.1, ok_lv (t := b) (n := n) h.2⟩
theorem two_arr {a b : List Nat} (h : ((⟨a.toArray⟩ : Str) == ⟨b.toArray⟩) = true) : a = b := by
  have := eq_of_beq h
  have := Str.mk.inj this
  simpa using this
theorem opS_inj {k j : Op} (h : (opS k == opS j) = true) : k = j := by
  cases k <;> cases j <;> first | rfl | exact absurd h (by decide +kernel)
theorem ev_tup (x y : Str) (xs ys : List PyData) : PyData.eqv (.tuple (.str x :: xs)) (.tuple (.str y :: ys)) = ((x == y) && PyData.eqvAll xs ys) := by
  rw [PyData.eqv, PyData.eqvAll, PyData.eqv]
theorem ev_cons (x y : PyData) (xs ys : List PyData) : PyData.eqvAll (x :: xs) (y :: ys) = (PyData.eqv x y && PyData.eqvAll xs ys) := by rw [PyData.eqvAll]
theorem ev_int (i j : Int) : PyData.eqv (.int i) (.int j) = (i == j) := by rw [PyData.eqv]
theorem ev_str (i j : Str) : PyData.eqv (.str i) (.str j) = (i == j) := by rw [PyData.eqv]
def hd2 : Tr → Str
  | .name _ => "name"
  | .num _ => "number"
  | .turned _ => "turned"
  | .power _ _ => "power"
  | .bin k _ _ => opS k
def tl2 : Tr → List PyData
  | .name w => [.str ⟨w.toArray⟩]
  | .num n => [.int (n : Int)]
  | .turned t => [trD t]
  | .power t e => [trD t, .int e]
  | .bin _ a b => [trD a, trD b]
theorem tr_hd (t : Tr) : trD t = .tuple (.str (hd2 t) :: tl2 t) := by cases t <;> rfl
theorem hd_ne (k : Op) : (opS k == "name") = false ∧ (opS k == "number") = false ∧ (opS k == "turned") = false ∧ (opS k == "power") = false ∧ (("name" : Str) == opS k) = false ∧ (("number" : Str) == opS k) = false ∧ (("turned" : Str) == opS k) = false ∧ (("power" : Str) == opS k) = false := by
  cases k <;> decide +kernel
theorem tr_ev {a b : Tr} (h : PyData.eqv (trD a) (trD b) = true) : (hd2 a == hd2 b) = true ∧ PyData.eqvAll (tl2 a) (tl2 b) = true := by
  rw [tr_hd a, tr_hd b, ev_tup] at h
  exact Bool.and_eq_true_iff.mp h
theorem no_b {p : Prop} {b : Bool} (h : b = true) (g : b = false) : p := by
  rw [g] at h
  cases h
theorem tr_inj : ∀ (a b : Tr), PyData.eqv (trD a) (trD b) = true → a = b := by
  intro a
  induction a with
  | name w =>
    intro b h
    obtain ⟨h1, h2⟩ := tr_ev h
    cases b with
    | name v =>
      have h2 : PyData.eqvAll [.str ⟨w.toArray⟩] [.str ⟨v.toArray⟩] = true := h2
      rw [ev_cons, ev_str] at h2
      rw [two_arr (Bool.and_eq_true_iff.mp h2).1]
    | num => exact no_b h1 (by decide +kernel : (("name" : Str) == "number") = false)
    | turned => exact no_b h1 (by decide +kernel : (("name" : Str) == "turned") = false)
    | power => exact no_b h1 (by decide +kernel : (("name" : Str) == "power") = false)
    | bin k => exact no_b h1 (hd_ne k).2.2.2.2.1
  | num w =>
    intro b h
    obtain ⟨h1, h2⟩ := tr_ev h
    cases b with
    | name v => exact no_b h1 (by decide +kernel : (("number" : Str) == "name") = false)
    | num v =>
      have h2 : PyData.eqvAll [.int (w : Int)] [.int (v : Int)] = true := h2
      rw [ev_cons, ev_int] at h2
      have := eq_of_beq (Bool.and_eq_true_iff.mp h2).1
      rw [Int.ofNat.inj this]
    | turned => exact no_b h1 (by decide +kernel : (("number" : Str) == "turned") = false)
    | power => exact no_b h1 (by decide +kernel : (("number" : Str) == "power") = false)
    | bin k => exact no_b h1 (hd_ne k).2.2.2.2.2.1
  | turned t ih =>
    intro b h
    obtain ⟨h1, h2⟩ := tr_ev h
    cases b with
    | name v => exact no_b h1 (by decide +kernel : (("turned" : Str) == "name") = false)
    | num v => exact no_b h1 (by decide +kernel : (("turned" : Str) == "number") = false)
    | turned u =>
      have h2 : PyData.eqvAll [trD t] [trD u] = true := h2
      rw [ev_cons] at h2
      rw [ih u (Bool.and_eq_true_iff.mp h2).1]
    | power => exact no_b h1 (by decide +kernel : (("turned" : Str) == "power") = false)
    | bin k => exact no_b h1 (hd_ne k).2.2.2.2.2.2.1
  | power t e ih =>
    intro b h
    obtain ⟨h1, h2⟩ := tr_ev h
    cases b with
    | name v => exact no_b h1 (by decide +kernel : (("power" : Str) == "name") = false)
    | num v => exact no_b h1 (by decide +kernel : (("power" : Str) == "number") = false)
    | turned u => exact no_b h1 (by decide +kernel : (("power" : Str) == "turned") = false)
    | power u f =>
      have h2 : PyData.eqvAll [trD t, .int e] [trD u, .int f] = true := h2
      rw [ev_cons, ev_cons, ev_int] at h2
      obtain ⟨h3, h4⟩ := Bool.and_eq_true_iff.mp h2
      rw [ih u h3, eq_of_beq (Bool.and_eq_true_iff.mp h4).1]
    | bin k => exact no_b h1 (hd_ne k).2.2.2.2.2.2.2
  | bin k t u ih1 ih2 =>
    intro b h
    obtain ⟨h1, h2⟩ := tr_ev h
    cases b with
    | name v => exact no_b h1 (hd_ne k).1
    | num v => exact no_b h1 (hd_ne k).2.1
    | turned v => exact no_b h1 (hd_ne k).2.2.1
    | power v f => exact no_b h1 (hd_ne k).2.2.2.1
    | bin j v x =>
      have h2 : PyData.eqvAll [trD t, trD u] [trD v, trD x] = true := h2
      rw [ev_cons, ev_cons] at h2
      obtain ⟨h3, h4⟩ := Bool.and_eq_true_iff.mp h2
      rw [ih1 v h3, ih2 x (Bool.and_eq_true_iff.mp h4).1, opS_inj h1]
end Xk
end
section
set_option Elab.async false
set_option linter.all false
set_option maxRecDepth 100000
set_option maxHeartbeats 4000000
namespace Xk
open PySem PySem.Spec PyProof.Rows L2 Xh LamX NdefX
/-! ### the least text of a tree -/
open Xp (Tr Op Wt Tk Aw)
def lvl : Tr → Nat
  | .bin k _ _ => if k.strong then 1 else 0
  | _ => 2
/-- how long a text of a tree of such a depth is at most -/
def mx (d : Nat) : Nat := 40 * 2 ^ d
theorem mx_s (d : Nat) : mx (d + 1) = mx d + mx d := by
  unfold mx
  rw [Nat.pow_succ]
  omega
theorem mx_lo (d : Nat) : 40 ≤ mx d := by
  unfold mx
  have := Nat.one_le_two_pow (n := d)
  omega
theorem mx_hi {d : Nat} (h : d ≤ 4) : mx d ≤ 640 := by
  unfold mx
  have := Nat.pow_le_pow_right (n := 2) (by decide) h
  omega
theorem lvl_le (t : Tr) : lvl t ≤ 2 := by
  cases t with
  | bin k a b =>
    show (if k.strong then 1 else 0) ≤ 2
    cases k.strong <;> decide
  | _ => exact Nat.le_refl _
def lvk (k : Op) : Nat := if k.strong then 1 else 0
def sgL (k : Op) : List Nat := [32] ++ opL k ++ [32]
def numT (e : Int) : List Nat := if e < 0 then 45 :: TL.numL e.natAbs else TL.numL e.natAbs
def lsT : Tr → List Nat
  | .name w => w
  | .num n => TL.numL n
  | .turned t => (if lvl t < 2 then [40] ++ lsT t ++ [41] else lsT t) ++ [39]
  | .power t e => (if lvl t < 2 then [40] ++ lsT t ++ [41] else lsT t) ++ [94] ++ numT e
  | .bin k a b => (if lvl a < lvk k then [40] ++ lsT a ++ [41] else lsT a) ++ sgL k ++ (if lvl b < lvk k + 1 then [40] ++ lsT b ++ [41] else lsT b)
def shT (m : Nat) (t : Tr) : List Nat := if lvl t < m then [40] ++ lsT t ++ [41] else lsT t
theorem lsT_turned (t : Tr) : lsT (.turned t) = shT 2 t ++ [39] := rfl
theorem lsT_power (t : Tr) (e : Int) : lsT (.power t e) = shT 2 t ++ [94] ++ numT e := rfl
theorem lsT_bin (k : Op) (a b : Tr) : lsT (.bin k a b) = shT (lvk k) a ++ sgL k ++ shT (lvk k + 1) b := rfl
theorem sh_zero (t : Tr) : shT 0 t = lsT t := if_neg (Nat.not_lt_zero _)
theorem lvk_le (k : Op) : lvk k ≤ 1 := by unfold lvk; cases k.strong <;> decide
/-! its words -/
theorem sh_wr {t : Tr} {m : Nat} (hm : m ≤ 2) (h : Wr (lsT t) (lvl t) t) : Wr (shT m t) m t := by
  have lv := lvl_le t
  unfold shT
  by_cases g : lvl t < m
  · rw [if_pos g]
    have := ((h.down lv (Nat.zero_le _)).shut 0 0).down (Nat.le_refl 2) hm
    simpa using this
  · rw [if_neg g]
    exact h.down lv (by omega)
theorem lsT_wr : ∀ {d : Nat} {t : Tr}, OkT d t → Wr (lsT t) (lvl t) t := by
  intro d t
  induction t generalizing d with
  | name w => intro h; exact Wr.name (by cases d <;> exact h)
  | num n => intro h; exact Wr.num (by cases d <;> exact h)
  | turned t ih =>
    intro h
    cases d with
    | zero => exact h.elim
    | succ d =>
      have := (sh_wr (Nat.le_refl 2) (ih (d := d) h)).tick 0
      rw [lsT_turned]
      show Wr _ 2 _
      simpa using this
  | power t e ih =>
    intro h
    cases d with
    | zero => exact h.elim
    | succ d =>
      have := (sh_wr (Nat.le_refl 2) (ih (d := d) h.2)).pow 0 0 0 h.1
      rw [lsT_power]
      show Wr _ 2 _
      have e2 : (if e < 0 then [45] else []) ++ numE e = numT e := by
        unfold numT numE
        by_cases g : e < 0
        · rw [if_pos g, if_pos g]; rfl
        · rw [if_neg g, if_neg g]; rfl
      rw [← e2]
      simpa using this
  | bin k a b ih1 ih2 =>
    intro h
    cases d with
    | zero => exact h.elim
    | succ d =>
      have h1 := sh_wr (show lvk k ≤ 2 from Nat.le_succ_of_le (lvk_le k)) (ih1 (d := d) h.1)
      have h2 := sh_wr (show lvk k + 1 ≤ 2 from Nat.succ_le_succ (lvk_le k)) (ih2 (d := d) h.2)
      rw [lsT_bin]
      show Wr _ (if k.strong then 1 else 0) _
      obtain ⟨c, hc⟩ : ∃ c : Nat, [c] = opL k := by
        cases k <;> exact ⟨_, rfl⟩
      have e1 : (if k.strong then 2 else 1) = lvk k + 1 := by
        unfold lvk
        cases k.strong <;> rfl
      have := Wr.bin (k := k) (a := a) (b := b) hc h1 (by rw [e1]; exact h2) 1 1
      unfold sgL
      rw [← hc]
      simpa using this
/-! its brackets -/
def cntN (l : List Nat) : Prop := l.count 40 = 0 ∧ l.count 41 = 0
theorem cnt_wordly {l : List Nat} (h : ∀ c ∈ l, Xp.wordly c = true) : cntN l := by
  constructor
  · exact List.count_eq_zero.mpr fun m => absurd (h 40 m) (by decide)
  · exact List.count_eq_zero.mpr fun m => absurd (h 41 m) (by decide)
theorem cnt_sg (k : Op) : cntN (sgL k) := by cases k <;> exact ⟨by decide +kernel, by decide +kernel⟩
theorem cnt_numT (e : Int) : cntN (numT e) := by
  have h := cnt_wordly (num_wordly e.natAbs)
  unfold numT
  by_cases g : e < 0
  · rw [if_pos g]
    constructor
    · rw [List.count_cons, h.1]
      rfl
    · rw [List.count_cons, h.2]
      rfl
  · rw [if_neg g]
    exact h
theorem lv_two (t : Tr) : (lvl t < 2 ∧ Xp.isBin t = 1) ∨ (¬ lvl t < 2 ∧ Xp.isBin t = 0) := by
  cases t with
  | bin k a b =>
    left
    refine ⟨?_, rfl⟩
    show (if k.strong then 1 else 0) < 2
    cases k.strong <;> decide
  | _ => exact .inr ⟨Nat.lt_irrefl 2, rfl⟩
theorem lv_one (t : Tr) : (lvl t < 1 ∧ Xp.isWeak t = 1) ∨ (¬ lvl t < 1 ∧ Xp.isWeak t = 0) := by
  cases t with
  | bin k a b =>
    show ((if k.strong then 1 else 0) < 1 ∧ (if k.strong then 0 else 1) = 1) ∨ _
    cases hk : k.strong
    · left; decide
    · right
      exact ⟨by show ¬ (if k.strong then 1 else 0) < 1; rw [hk]; decide, by show (if k.strong then 0 else 1) = 0; rw [hk]; rfl⟩
  | _ => exact .inr ⟨(by decide : ¬ 2 < 1), rfl⟩
theorem sh_cnt2 {t : Tr} (h : (lsT t).count 40 = Xp.need t) : (shT 2 t).count 40 = Xp.need t + Xp.isBin t := by
  unfold shT
  rcases lv_two t with ⟨g, e⟩ | ⟨g, e⟩
  · rw [if_pos g, List.count_append, List.count_append, h, e]
    show 1 + _ + 0 = _
    omega
  · rw [if_neg g, h, e, Nat.add_zero]
theorem sh_cnt1 {t : Tr} (h : (lsT t).count 40 = Xp.need t) : (shT 1 t).count 40 = Xp.need t + Xp.isWeak t := by
  unfold shT
  rcases lv_one t with ⟨g, e⟩ | ⟨g, e⟩
  · rw [if_pos g, List.count_append, List.count_append, h, e]
    show 1 + _ + 0 = _
    omega
  · rw [if_neg g, h, e, Nat.add_zero]
theorem lsT_cnt : ∀ {t : Tr}, Lv t → (lsT t).count 40 = Xp.need t := by
  intro t
  induction t with
  | name w => intro h; exact (cnt_wordly (name_wordly (w := w) h).2).1
  | num n => intro _; exact (cnt_wordly (num_wordly n)).1
  | turned t ih =>
    intro h
    rw [lsT_turned, List.count_append, sh_cnt2 (ih h)]
    rfl
  | power t e ih =>
    intro h
    rw [lsT_power, List.count_append, List.count_append, sh_cnt2 (ih h), (cnt_numT e).1]
    rfl
  | bin k a b ih1 ih2 =>
    intro h
    rw [lsT_bin, List.count_append, List.count_append, (cnt_sg k).1]
    cases hk : k.strong with
    | true =>
      rw [show lvk k = 1 by unfold lvk; rw [hk]; rfl, sh_cnt1 (ih1 h.1), sh_cnt2 (ih2 h.2), (Xp.need_s hk a b).1, Nat.add_zero]
    | false =>
      rw [show lvk k = 0 by unfold lvk; rw [hk]; rfl, sh_zero, ih1 h.1, sh_cnt1 (ih2 h.2), Xp.need_w hk a b, Nat.add_zero]
/-! each bracket is shut -/
def bs (l : List Nat) : Int := (l.count 40 : Int) - l.count 41
theorem bs_app (a b : List Nat) : bs (a ++ b) = bs a + bs b := by
  unfold bs
  rw [List.count_append, List.count_append]
  omega
def Bal (l : List Nat) : Prop := bs l = 0 ∧ ∀ m, 0 ≤ bs (l.take m)
theorem Bal.app {a b : List Nat} (h : Bal a) (g : Bal b) : Bal (a ++ b) := by
  refine ⟨by rw [bs_app, h.1, g.1]; rfl, fun m => ?_⟩
  rw [List.take_append, bs_app]
  have := h.2 m
  have := g.2 (m - a.length)
  omega
theorem Bal.none {l : List Nat} (h : cntN l) : Bal l := by
  refine ⟨by unfold bs; rw [h.1, h.2]; rfl, fun m => ?_⟩
  unfold bs
  have h1 := List.Sublist.count_le 41 (List.take_sublist m l)
  rw [h.2] at h1
  omega
theorem Bal.shut {l : List Nat} (h : Bal l) : Bal ([40] ++ l ++ [41]) := by
  refine ⟨by rw [bs_app, bs_app, h.1]; rfl, fun m => ?_⟩
  rw [List.take_append, List.take_append, bs_app, bs_app]
  have h1 := h.2 (m - [40].length)
  match m with
  | 0 => simp [bs]
  | m + 1 =>
    have e1 : bs (List.take (m + 1) [40]) = 1 := by simp [bs]
    have e2 : -1 ≤ bs (List.take (m + 1 - ([40] ++ l).length) [41]) := by
      cases m + 1 - ([40] ++ l).length with
      | zero => simp [bs]
      | succ j => simp [bs]
    omega
theorem Bal.sh {t : Tr} (h : Bal (lsT t)) (m : Nat) : Bal (shT m t) := by
  unfold shT
  split
  · exact h.shut
  · exact h
theorem lsT_bal : ∀ {t : Tr}, Lv t → Bal (lsT t) := by
  intro t
  induction t with
  | name w => intro h; exact .none (cnt_wordly (name_wordly (w := w) h).2)
  | num n => intro _; exact .none (cnt_wordly (num_wordly n))
  | turned t ih =>
    intro h
    rw [lsT_turned]
    exact ((ih h).sh 2).app (.none ⟨rfl, rfl⟩)
  | power t e ih =>
    intro h
    rw [lsT_power]
    exact (((ih h).sh 2).app (.none ⟨rfl, rfl⟩)).app (.none (cnt_numT e))
  | bin k a b ih1 ih2 =>
    intro h
    rw [lsT_bin]
    exact (((ih1 h.1).sh _).app (.none (cnt_sg k))).app ((ih2 h.2).sh _)
/-! how long it is -/
theorem sh_len {t : Tr} {n : Nat} (h : (lsT t).length + 19 ≤ n) (m : Nat) : (shT m t).length + 17 ≤ n := by
  unfold shT
  split
  · rw [List.length_append, List.length_append]
    show 1 + _ + 1 + 17 ≤ n
    omega
  · omega
theorem numT_len {e : Int} (h : e.natAbs < 1000000) : (numT e).length ≤ 7 := by
  have l6 := TL.numL_len (n := e.natAbs) (k := 6) (by decide) (by omega)
  unfold numT
  by_cases g : e < 0
  · rw [if_pos g, List.length_cons]; omega
  · rw [if_neg g]; omega
theorem lsT_len : ∀ {d : Nat} {t : Tr}, OkT d t → (lsT t).length + 19 ≤ mx d := by
  intro d t
  induction t generalizing d with
  | name w =>
    intro h
    have hv : nameB w = true := by cases d <;> exact h
    have l8 : w.length ≤ 8 := by
      unfold nameB at hv
      obtain ⟨h, _⟩ := Bool.and_eq_true_iff.mp hv
      exact of_decide_eq_true (Bool.and_eq_true_iff.mp h).2
    have := mx_lo d
    show w.length + 19 ≤ _
    omega
  | num n =>
    intro h
    have hv : n < 1000000 := by cases d <;> exact h
    have l6 := TL.numL_len (n := n) (k := 6) (by decide) (by omega)
    have := mx_lo d
    show (TL.numL n).length + 19 ≤ _
    omega
  | turned t ih =>
    intro h
    cases d with
    | zero => exact h.elim
    | succ d =>
      have := sh_len (ih (d := d) h) 2
      have := mx_s d
      have := mx_lo d
      rw [lsT_turned, List.length_append]
      show _ + 1 + 19 ≤ _
      omega
  | power t e ih =>
    intro h
    cases d with
    | zero => exact h.elim
    | succ d =>
      have := sh_len (ih (d := d) h.2) 2
      have := numT_len h.1
      have := mx_s d
      have := mx_lo d
      rw [lsT_power, List.length_append, List.length_append]
      show _ + 1 + _ + 19 ≤ _
      omega
  | bin k a b ih1 ih2 =>
    intro h
    cases d with
    | zero => exact h.elim
    | succ d =>
      have := sh_len (ih1 (d := d) h.1) (lvk k)
      have := sh_len (ih2 (d := d) h.2) (lvk k + 1)
      have := mx_s d
      rw [lsT_bin, List.length_append, List.length_append, show (sgL k).length = 3 by cases k <;> rfl]
      omega
end Xk
end
section
set_option Elab.async false
set_option linter.all false
set_option maxRecDepth 100000
set_option maxHeartbeats 4000000
namespace Xk
open PySem PySem.Spec PyProof.Rows L2 Xh LamX NdefX
/-! ### a tree's text by the law -/
open Xp (Tr Op Wt Tk Aw)
theorem call_strE {X : Cx} : CallR X (.type "str") (fun xs H Q => (∃ i, xs = [.int i] ∧ i.natAbs.log2 < 1920 ∧ Q (.str (toString i)) H) ∨ ∃ a, xs = [.str a] ∧ Q (.str a) H) :=
  fun pins s σ H xs us Q I r h => h.elim (call_str_int pins s σ H xs us Q I r) (SkE.call_str_str pins s σ H xs us Q I r)
def sgS : Op → Str
  | .plus => " + "
  | .minus => " - "
  | .times => " * "
  | .over => " / "
def sgT : List (Key × V) := [(.inr "plus", .str " + "), (.inr "minus", .str " - "), (.inr "times", .str " * "), (.inr "over", .str " / ")]
theorem sg_val (k : Op) : valV (mergeK [] sgT) (.inr (opS k)) = some (.str (sgS k)) := by cases k <;> decide +kernel
def spSigns : Sp := fun vs H Q _ => vs = [] ∧ ∀ (a : Addr) (H' : Hp), Same H H' → (∀ k : Op, DGet H' a (.str (opS k)) (some (.str (sgS k)))) → Q (.ref a) H'
def headS : Tr → Str
  | .name _ => "name"
  | .num _ => "number"
  | .turned _ => "turned"
  | .power _ _ => "power"
  | .bin k _ _ => opS k
theorem TreeAt.head {H : Hp} : ∀ {t : Tr} {a : Addr}, TreeAt H a t → ∃ xs, H a = some (.tup (.str (headS t) :: xs))
  | .name _, _, ⟨s, h, _⟩ => ⟨_, h⟩
  | .num _, _, h => ⟨_, h⟩
  | .turned _, _, ⟨_, h, _⟩ => ⟨_, h⟩
  | .power _ _, _, ⟨_, h, _⟩ => ⟨_, h⟩
  | .bin _ _ _, _, ⟨_, _, h, _⟩ => ⟨_, h⟩
def kindsL : Nat → List V
  | 2 => [.str "plus", .str "minus", .str "times", .str "over"]
  | 1 => [.str "plus", .str "minus"]
  | _ => []
theorem inV_op1 (k : Op) : inV (.str (opS k)) [.str "plus", .str "minus"] = !k.strong := by cases k <;> decide +kernel
theorem inV_op2 (k : Op) : inV (.str (opS k)) [.str "plus", .str "minus", .str "times", .str "over"] = true := by cases k <;> decide +kernel
theorem inV_w1 : inV (.str "name") [.str "plus", .str "minus"] = false ∧ inV (.str "number") [.str "plus", .str "minus"] = false ∧ inV (.str "turned") [.str "plus", .str "minus"] = false ∧ inV (.str "power") [.str "plus", .str "minus"] = false := by decide +kernel
theorem inV_w2 : inV (.str "name") [.str "plus", .str "minus", .str "times", .str "over"] = false ∧ inV (.str "number") [.str "plus", .str "minus", .str "times", .str "over"] = false ∧ inV (.str "turned") [.str "plus", .str "minus", .str "times", .str "over"] = false ∧ inV (.str "power") [.str "plus", .str "minus", .str "times", .str "over"] = false := by decide +kernel
theorem inV_head (t : Tr) {m : Nat} (hm : m ≤ 2) : inV (.str (headS t)) (kindsL m) = decide (lvl t < m) := by
  rcases (by omega : m = 0 ∨ m = 1 ∨ m = 2) with rfl | rfl | rfl
  · rfl
  · cases t with
    | bin k a b =>
      refine (inV_op1 k).trans ?_
      cases k <;> rfl
    | name => exact inV_w1.1
    | num => exact inV_w1.2.1
    | turned => exact inV_w1.2.2.1
    | power => exact inV_w1.2.2.2
  · cases t with
    | bin k a b =>
      refine (inV_op2 k).trans ?_
      cases k <;> rfl
    | name => exact inV_w2.1
    | num => exact inV_w2.2.1
    | turned => exact inV_w2.2.2.1
    | power => exact inV_w2.2.2.2
theorem inV_nn : inV (.str "name") [.str "name", .str "number"] = true ∧ inV (.str "number") [.str "name", .str "number"] = true ∧ inV (.str "turned") [.str "name", .str "number"] = false ∧ inV (.str "power") [.str "name", .str "number"] = false ∧ ∀ k : Op, inV (.str (opS k)) [.str "name", .str "number"] = false :=
  ⟨by decide +kernel, by decide +kernel, by decide +kernel, by decide +kernel, fun k => by cases k <;> decide +kernel⟩
theorem op_nt (k : Op) : decide (V.str (opS k) = V.str "turned") = false ∧ decide (V.str (opS k) = V.str "power") = false := by cases k <;> exact ⟨by decide +kernel, by decide +kernel⟩
theorem op_pt : decide (V.str "power" = V.str "turned") = false := by decide +kernel
theorem log_ok {v : Nat} (h : v < 1000000) : ((v : Int).natAbs).log2 < 1920 := by
  rw [Int.natAbs_natCast]
  by_cases z : v = 0
  · rw [z]; decide
  · refine (Nat.log2_lt z).mpr (Nat.lt_of_lt_of_le h ?_)
    exact Nat.le_trans (by decide : 1000000 ≤ 2 ^ 20) (Nat.pow_le_pow_right (by decide) (by decide))
theorem abs_eq (e : Int) : (if e < 0 then -e else e) = ((e.natAbs : Nat) : Int) := by
  by_cases g : e < 0
  · rw [if_pos g]; omega
  · rw [if_neg g]; omega
theorem inV_to (k : Op) : inV (.str (opS k)) [.str "times", .str "over"] = k.strong := by cases k <;> decide +kernel
theorem len_app (a b : Str) : (a ++ b).length = a.length + b.length := by
  rw [TL.len_tl, TL.tl_append, List.length_append, ← TL.len_tl, ← TL.len_tl]
theorem tl_int (e : Int) : TL.tl (Str.ofString (toString e)) = if e < 0 then 45 :: TL.numL e.natAbs else TL.numL e.natAbs := by
  by_cases g : e < 0
  · rw [if_pos g]
    obtain ⟨n, rfl⟩ : ∃ n : Nat, e = Int.negSucc n := ⟨e.natAbs - 1, by omega⟩
    have h1 : toString (Int.negSucc n) = "-" ++ toString ((n + 1 : Nat) : Int) := rfl
    have h2 := TL.tl_num (n + 1)
    rw [TL.tl_ofString] at h2
    rw [TL.tl_ofString, h1, String.toList_append, List.map_append, h2]
    rfl
  · rw [if_neg g]
    obtain ⟨n, rfl⟩ := Int.eq_ofNat_of_zero_le (show 0 ≤ e by omega)
    exact TL.tl_num n
theorem tl_intT (e : Int) : TL.tl (Str.ofString (toString e)) = numT e := tl_int e
theorem sg_len (k : Op) : (sgS k).length = 3 := by cases k <;> decide +kernel
theorem tl_sg (k : Op) : TL.tl (sgS k) = sgL k := by cases k <;> decide +kernel
def spTx : Nat → Sp
  | 0 => fun _ _ _ _ => False
  | n + 1 => fun vs H Q _ => ∃ (ta : Addr) (t : Tr) (dp : Nat), vs = [.ref ta] ∧ dp ≤ n ∧ dp ≤ 4 ∧ OkT dp t ∧ TreeAt H ta t ∧ ∀ (y : Str) (H' : Hp), TL.tl y = lsT t → Same H H' → Q (.str y) H'
def spSh (K : PySem.W.Frag) : Nat → Sp
  | 0 => fun _ _ _ _ => False
  | n + 1 => fun vs H Q _ => ∃ (ta kn : Addr) (t : Tr) (dp m : Nat), vs = [.ref ta, .ref kn] ∧ dp ≤ n ∧ dp ≤ 4 ∧ OkT dp t ∧ TreeAt H ta t ∧ m ≤ 2 ∧ SqL K H kn (kindsL m) ∧ ∀ (y : Str) (H' : Hp), TL.tl y = shT m t → Same H H' → Q (.str y) H'
theorem spTx_len : ∀ (n : Nat) (vs : List V) (H : Hp) (Q : VK) (E : XK), spTx n vs H Q E → vs.length = (["_law_tree_here"] : List Str).length
  | 0, _, _, _, _, h => h.elim
  | n + 1, _, _, _, _, ⟨_, _, _, e, _⟩ => by rw [e]; rfl
theorem spSh_len {K : PySem.W.Frag} : ∀ (n : Nat) (vs : List V) (H : Hp) (Q : VK) (E : XK), spSh K n vs H Q E → vs.length = (["_law_tree_here", "_law_kinds"] : List Str).length
  | 0, _, _, _, _, h => h.elim
  | n + 1, _, _, _, _, ⟨_, _, _, _, _, e, _⟩ => by rw [e]; rfl
section
variable {P : Program} {w : World} {K : PySem.W.Frag} {mg : Str → Option Value} {base : Heap}
theorem sc_law_signs : FnScope ([] : List Str) [] (defScope s_law_signs) := ⟨rfl, rfl, rfl, by decide +kernel, rfl, by decide +kernel, by decide +kernel⟩
theorem ok_law_signs {f : Addr} {fd : FuncData} (F : FunD K "_law_signs" "_law_signs" (defArgs s_law_signs) (defBody s_law_signs) (defScope s_law_signs) [] [] f fd) : FnOk P w K mg base CX0 1 f fd [] spSigns := by
  refine F.ok sc_law_signs (fun vs H Q E h => ?_) (fun cdv A outer s H vs Q E hr h => ?_)
  · obtain ⟨rfl, _⟩ := h
    rfl
  · obtain ⟨rfl, k⟩ := h
    refine ⟨_, PSs.nox (pss_one (ps_ret (pe_disp (pps_cons pe_str pe_str (pps_cons pe_str pe_str (pps_cons pe_str pe_str (pps_cons pe_str pe_str pps_nil)))) (by rfl) (by rfl) (fun z => by cases z) (by decide)))) , ?_⟩
    intro p hp
    show L2.upd H p (.dK []) p = some (.dK []) ∧ ∃ kvs : List (Key × V), _ = kvs.map (fun kv => (kV kv.1, kv.2)) ∧ kvs.length ≤ 15 ∧ Q (.ref p) (L2.upd (L2.upd H p (.dK [])) p (.dK (mergeK [] kvs)))
    refine ⟨upd_same, sgT, rfl, (by show 4 ≤ 15; decide), ?_⟩
    generalize hm : mergeK [] sgT = ms
    refine k p _ (fun b o e => ?_) fun op => ?_
    · rw [upd_ne (ne_of_none e hp), upd_ne (ne_of_none e hp)]
      exact e
    · have := DGet.k (k := .inr (opS op)) (kvs := ms) (a := p) (H := L2.upd (L2.upd H p (.dK [])) p (.dK ms)) upd_same
      rw [← hm, sg_val, hm] at this
      exact this
theorem sc_law_shut : FnScope (["_law_tree_here", "_law_kinds"] : List Str) ["_law_tree_here", "_law_kinds"] (defScope s_law_shut) := ⟨rfl, rfl, rfl, by decide +kernel, rfl, by decide +kernel, by decide +kernel⟩
theorem ok_law_shut {f : Addr} {fd : FuncData} {n L : Nat} (F : FunD K "_law_shut" "_law_shut" (defArgs s_law_shut) (defBody s_law_shut) (defScope s_law_shut) [] [] f fd) (T : Fre mg) (o_law_text : Own P w K mg base CX0 L "_law_text" ["_law_tree_here"] [] (spTx n)) : FnOk P w K mg base CX0 (L + 1) f fd ["_law_tree_here", "_law_kinds"] (spSh K n) := by
  refine F.ok sc_law_shut (spSh_len _) (fun cdv A outer s H vs Q E hr h => ?_)
  cases n with
  | zero => exact h.elim
  | succ n =>
  obtain ⟨ta, kn, t, dp, m, rfl, hd, h3, ok, x, hm, hS, k⟩ := h
  refine ⟨_, PSs.nox (pss_one (ps_ret (pe_ifExp (pt_cmpR op_in_seq (pe_ix ix_tup (pv 0) pe_int (fun _ _ => rfl)) (pv 1) (by rfl)) (pe_op op_add_str (pe_op op_add_str pe_str (pe_own o_law_text hr rfl pass0 (pa_cons (pv 0) pa_nil))) pe_str) (pe_own o_law_text hr rfl pass0 (pa_cons (pv 0) pa_nil))))) , ?_⟩
  obtain ⟨xs, eh⟩ := x.head
  have m3 := mx_hi h3
  have cl := lsT_len ok
  refine ⟨_, rfl, ta, _, 0, .str (headS t), rfl, rfl, .inl (.inl eh), atI_nat (j := 0) rfl, _, rfl, kn, kindsL m, rfl, .inl hS, rfl, ?_, ?_⟩
  · rcases (by omega : m = 0 ∨ m = 1 ∨ m = 2) with rfl | rfl | rfl <;> rfl
  refine ⟨_, rfl, ?_⟩
  show if inV (V.str (headS t)) (kindsL m) = true then _ else _
  rw [inV_head t hm]
  by_cases g : lvl t < m
  · rw [decide_eq_true g]
    refine iteT ⟨_, rfl, ta, t, dp, rfl, hd, h3, ok, x, fun y H1 ty s1 => ?_⟩
    have ly : y.length = (lsT t).length := by rw [TL.len_tl, ty]
    refine ⟨_, _, rfl, rfl, line8 (by show 1 + y.length ≤ 10000; omega), _, _, rfl, rfl, ?_, k _ H1 ?_ s1⟩
    · rw [len_app]
      exact line8 (by show 1 + y.length + 1 ≤ 10000; omega)
    · unfold shT
      rw [TL.tl_append, TL.tl_append, ty, if_pos g]
      rfl
  · rw [decide_eq_false g]
    refine iteF ⟨_, rfl, ta, t, dp, rfl, hd, h3, ok, x, fun y H1 ty s1 => k y H1 ?_ s1⟩
    unfold shT
    rw [if_neg g]
    exact ty
theorem sc_law_text : FnScope (["_law_tree_here", "_law_two"] : List Str) ["_law_tree_here"] (defScope s_law_text) := ⟨rfl, rfl, rfl, by decide +kernel, rfl, by decide +kernel, by decide +kernel⟩
theorem ok_law_text {f : Addr} {fd : FuncData} {n L M : Nat} (F : FunD K "_law_text" "_law_text" (defArgs s_law_text) (defBody s_law_text) (defScope s_law_text) [] [] f fd) (T : Fre mg) (hL : 1 ≤ L) (hT1 : M ≤ L) (o_law_shut : Own P w K mg base CX0 L "_law_shut" ["_law_tree_here", "_law_kinds"] [] (spSh K n)) (o_law_text : Own P w K mg base CX0 M "_law_text" ["_law_tree_here"] [] (spTx n)) (o_law_signs : Own P w K mg base CX0 1 "_law_signs" [] [] spSigns) : FnOk P w K mg base CX0 (L + 1) f fd ["_law_tree_here"] (spTx (n + 1)) := by
  refine F.ok sc_law_text (spTx_len _) (fun cdv A outer s H vs Q E hr h => ?_)
  obtain ⟨ta, t, dp, rfl, hd, h3, ok, x, k⟩ := h
  refine ⟨_, PSs.nox (pss_cons (ps_set (i := 1) sc_law_text.nd rfl (Or.inl rfl) (pe_lst (pa_cons pe_str (pa_cons pe_str (pa_cons pe_str (pa_cons pe_str pa_nil))))))
      (pss_cons (ps_if (pt_cmpR op_in_seq (pe_ix ix_tup (pv 0) pe_int (fun _ _ => rfl)) (pe_tup (pa_cons pe_str (pa_cons pe_str pa_nil))) (by rfl)) (pss_one (ps_ret (pe_callTy call_strE (by rfl) T.f_str (by decide +kernel) (pa_cons (pe_ix ix_tup (pv 0) pe_int (fun _ _ => rfl)) pa_nil)))) pss_nil)
      (pss_cons (ps_if (pt_cmpR op_eq (pe_ix ix_tup (pv 0) pe_int (fun _ _ => rfl)) pe_str (nomark _)) (pss_one (ps_ret (pe_op op_add_str (pe_own o_law_shut hr rfl pass0 (pa_cons (pe_ix ix_tup (pv 0) pe_int (fun _ _ => rfl)) (pa_cons (pv 1) pa_nil))) pe_str))) pss_nil)
      (pss_cons (ps_if (pt_cmpR op_eq (pe_ix ix_tup (pv 0) pe_int (fun _ _ => rfl)) pe_str (nomark _)) (pss_one (ps_ret (pe_op op_add_str (pe_op op_add_str (pe_own o_law_shut hr rfl pass0 (pa_cons (pe_ix ix_tup (pv 0) pe_int (fun _ _ => rfl)) (pa_cons (pv 1) pa_nil))) pe_str) (pe_callTy call_str_int (by rfl) T.f_str (by decide +kernel) (pa_cons (pe_ix ix_tup (pv 0) pe_int (fun _ _ => rfl)) pa_nil))))) pss_nil)
      (pss_cons (ps_if (pt_cmpR op_in_seq (pe_ix ix_tup (pv 0) pe_int (fun _ _ => rfl)) (pe_tup (pa_cons pe_str (pa_cons pe_str pa_nil))) (by rfl)) (pss_one (ps_ret (pe_op op_add_str (pe_op op_add_str (pe_own o_law_text (hr.mono hT1) rfl pass0 (pa_cons (pe_ix ix_tup (pv 0) pe_int (fun _ _ => rfl)) pa_nil)) (pe_dget (Nat.lt_of_le_of_lt (Nat.add_le_add_left (by decide) _) hr.units) (pe_own0 o_law_signs (hr.mono hL) rfl pass0) (pe_ix ix_tup (pv 0) pe_int (fun _ _ => rfl)) (fun _ _ => rfl))) (pe_own o_law_shut hr rfl pass0 (pa_cons (pe_ix ix_tup (pv 0) pe_int (fun _ _ => rfl)) (pa_cons (pe_slice sl_list (pv 1) po_none (po_some pe_int)) pa_nil)))))) pss_nil)
      (pss_one (ps_ret (pe_op op_add_str (pe_op op_add_str (pe_own o_law_shut hr rfl pass0 (pa_cons (pe_ix ix_tup (pv 0) pe_int (fun _ _ => rfl)) (pa_cons (pe_slice sl_list (pv 1) po_none (po_some pe_int)) pa_nil))) (pe_dget (Nat.lt_of_le_of_lt (Nat.add_le_add_left (by decide) _) hr.units) (pe_own0 o_law_signs (hr.mono hL) rfl pass0) (pe_ix ix_tup (pv 0) pe_int (fun _ _ => rfl)) (fun _ _ => rfl))) (pe_own o_law_shut hr rfl pass0 (pa_cons (pe_ix ix_tup (pv 0) pe_int (fun _ _ => rfl)) (pa_cons (pv 1) pa_nil))))))))))) , ?_⟩
  refine ⟨(by show 4 ≤ sizeLine; decide), fun tw hw => ?_⟩
  have s1 := same_upd (o := .lst (kindsL 2)) hw
  have x1 := x.keep (same_tk s1)
  have e1 : L2.upd H tw (.lst (kindsL 2)) tw = some (.lst (kindsL 2)) := upd_same
  have m3 := mx_hi h3
  show tSeq _ _ _ _ (L2.upd H tw (.lst (kindsL 2)))
  generalize L2.upd H tw (.lst (kindsL 2)) = H1 at *
  obtain ⟨xs, eh⟩ := x1.head
  have first : ∀ (Hx : Hp) (G : Bool → Hp → Prop) (σ : L2.St) (z1 z2 : Str), σ[0]? = some (some (.ref ta)) → Same H1 Hx → (∀ H2, Same Hx H2 → G (inV (.str (headS t)) [.str z1, .str z2]) H2) → tTest (tOp (rIn K false) (tOp (rIxT K) (tVar 0) (tC (.int 0))) (tTup (tCons (tC (.str z1)) (tCons (tC (.str z2)) tNil)))) σ Hx G := fun Hx G σ z1 z2 hσ sx g =>
    ⟨_, hσ, ta, _, 0, V.str (headS t), rfl, rfl, .inl (.inl (sx _ _ eh)), atI_nat (j := 0) rfl, (by show 2 ≤ sizeLine; decide), fun p hp => ⟨p, _, rfl, .inr (.inl (.inl upd_same)), rfl, rfl, _, rfl, g _ (same_upd hp)⟩⟩
  have eqT : ∀ (H2 : Hp) (G : Bool → Hp → Prop) (z : Str) (σ : L2.St), σ[0]? = some (some (.ref ta)) → Same H1 H2 → G (decide (V.str (headS t) = V.str z)) H2 → tTest (tOp rEq (tOp (rIxT K) (tVar 0) (tC (.int 0))) (tC (.str z))) σ H2 G := fun H2 G z σ hσ s2 g =>
    ⟨_, hσ, ta, _, 0, V.str (headS t), rfl, rfl, .inl (.inl (s2 _ _ eh)), atI_nat (j := 0) rfl, rfl, _, rfl, g⟩
  have half : ∀ (Ha : Hp) (G : VK) (σ : L2.St), σ[1]? = some (some (.ref tw)) → Ha tw = some (.lst (kindsL 2)) → (∀ p H', Same Ha H' → SqL K H' p [.str "plus", .str "minus"] → G (.ref p) H') → tSl (rSlL K) (tVar 1) tNoPart (tPart (tC (.int 2))) σ Ha G := fun Ha G σ hσ ea g =>
    ⟨_, hσ, 2, rfl, tw, _, rfl, SqL.of ea, fun p hp => g p _ (same_upd hp) (SqL.of upd_same)⟩
  refine first H1 _ _ _ _ rfl (fun _ _ e => e) fun H2 s2 => ?_
  have x2 := x1.keep (same_tk s2)
  have e2 := s2 _ _ e1
  have S2 := s1.trans s2
  cases t with
  | name v =>
    obtain ⟨z, e, ez⟩ := x2
    rw [show inV (.str (headS (.name v))) [.str "name", .str "number"] = true from inV_nn.1]
    exact iteT ⟨_, rfl, ta, _, 1, V.str z, rfl, rfl, .inl (.inl e), atI_nat (j := 1) rfl, .inr ⟨z, rfl, k z H2 ez S2⟩⟩
  | num v =>
    have hv : v < 1000000 := by cases dp <;> exact ok
    have e : H2 ta = some (.tup [.str "number", .int (v : Int)]) := x2
    rw [show inV (.str (headS (.num v))) [.str "name", .str "number"] = true from inV_nn.2.1]
    have ez : TL.tl (Str.ofString (toString (v : Int))) = TL.numL v := TL.tl_num v
    exact iteT ⟨_, rfl, ta, _, 1, V.int (v : Int), rfl, rfl, .inl (.inl e), atI_nat (j := 1) rfl, .inl ⟨(v : Int), rfl, log_ok hv, k (Str.ofString (toString (v : Int))) H2 ez S2⟩⟩
  | turned t1 =>
    obtain ⟨b, e, xb⟩ := x2
    rw [show inV (.str (headS (.turned t1))) [.str "name", .str "number"] = false from inV_nn.2.2.1]
    refine iteF (eqT H2 _ _ _ rfl s2 ?_)
    rw [show decide (V.str (headS (.turned t1)) = V.str "turned") = true from decide_eq_true rfl]
    refine iteT ?_
    obtain ⟨dq, rfl⟩ : ∃ dq, dp = dq + 1 := by
      cases dp with
      | zero => exact ok.elim
      | succ dq => exact ⟨dq, rfl⟩
    obtain ⟨n', rfl⟩ : ∃ n', n = n' + 1 := ⟨n - 1, by omega⟩
    have ms := mx_s dq
    have ml := mx_lo dq
    refine ⟨_, rfl, ta, _, 1, .ref b, rfl, rfl, .inl (.inl e), atI_nat (j := 1) rfl, _, rfl, b, tw, t1, dq, 2, rfl, by omega, by omega, ok, xb, Nat.le_refl 2, SqL.of e2, fun y H3 ty s3 => ?_⟩
    have ly : y.length = (shT 2 t1).length := by rw [TL.len_tl, ty]
    have l1 := sh_len (lsT_len (d := dq) (t := t1) ok) 2
    refine ⟨_, _, rfl, rfl, line8 (by show y.length + 1 ≤ 10000; omega), k _ H3 ?_ (S2.trans s3)⟩
    rw [TL.tl_append, ty]
    rfl
  | power t1 ex =>
    obtain ⟨b, e, xb⟩ := x2
    rw [show inV (.str (headS (.power t1 ex))) [.str "name", .str "number"] = false from inV_nn.2.2.2.1]
    refine iteF (eqT H2 _ _ _ rfl s2 ?_)
    rw [show decide (V.str (headS (.power t1 ex)) = V.str "turned") = false from op_pt]
    refine iteF (eqT H2 _ _ _ rfl s2 ?_)
    rw [show decide (V.str (headS (.power t1 ex)) = V.str "power") = true from decide_eq_true rfl]
    refine iteT ?_
    obtain ⟨dq, rfl⟩ : ∃ dq, dp = dq + 1 := by
      cases dp with
      | zero => exact ok.elim
      | succ dq => exact ⟨dq, rfl⟩
    obtain ⟨hex, ok⟩ : ex.natAbs < 1000000 ∧ OkT dq t1 := ok
    obtain ⟨n', rfl⟩ : ∃ n', n = n' + 1 := ⟨n - 1, by omega⟩
    have ms := mx_s dq
    have ml := mx_lo dq
    refine ⟨_, rfl, ta, _, 1, .ref b, rfl, rfl, .inl (.inl e), atI_nat (j := 1) rfl, _, rfl, b, tw, t1, dq, 2, rfl, by omega, by omega, ok, xb, Nat.le_refl 2, SqL.of e2, fun y H3 ty s3 => ?_⟩
    have ly : y.length = (shT 2 t1).length := by rw [TL.len_tl, ty]
    have l1 := sh_len (lsT_len (d := dq) (t := t1) ok) 2
    have et := tl_intT ex
    have lt : (Str.ofString (toString ex)).length ≤ 7 := by
      rw [TL.len_tl, et]
      exact numT_len hex
    refine ⟨_, _, rfl, rfl, line8 (by show y.length + 1 ≤ 10000; omega), _, rfl, ta, _, 2, .int ex, rfl, rfl, .inl (.inl (s3 _ _ e)), atI_nat (j := 2) rfl, ex, rfl, ?_, _, _, rfl, rfl, ?_, k _ H3 ?_ (S2.trans s3)⟩
    · have := log_ok hex
      rwa [Int.natAbs_natCast] at this
    · rw [len_app]
      exact line8 (by show y.length + 1 + (Str.ofString (toString ex)).length ≤ 10000; omega)
    · rw [TL.tl_append, TL.tl_append, ty, et]
      rfl
  | bin op t1 t2 =>
    obtain ⟨b, c, e, xb, xc⟩ := x2
    rw [show inV (.str (headS (.bin op t1 t2))) [.str "name", .str "number"] = false from inV_nn.2.2.2.2 op]
    refine iteF (eqT H2 _ _ _ rfl s2 ?_)
    rw [show decide (V.str (headS (.bin op t1 t2)) = V.str "turned") = false from (op_nt op).1]
    refine iteF (eqT H2 _ _ _ rfl s2 ?_)
    rw [show decide (V.str (headS (.bin op t1 t2)) = V.str "power") = false from (op_nt op).2]
    refine iteF ?_
    obtain ⟨dq, rfl⟩ : ∃ dq, dp = dq + 1 := by
      cases dp with
      | zero => exact ok.elim
      | succ dq => exact ⟨dq, rfl⟩
    obtain ⟨ok1, ok2⟩ : OkT dq t1 ∧ OkT dq t2 := ok
    obtain ⟨n', rfl⟩ : ∃ n', n = n' + 1 := ⟨n - 1, by omega⟩
    have ms := mx_s dq
    have ml := mx_lo dq
    have b1 := sh_len (lsT_len ok1) (lvk op)
    have b2 := sh_len (lsT_len ok2) (lvk op + 1)
    have fin : ∀ (y1 y2 : Str) (Hf : Hp), TL.tl y1 = shT (lvk op) t1 → TL.tl y2 = shT (lvk op + 1) t2 → Same H Hf → (y1.length + (sgS op).length ≤ sizeLine ∧ (y1 ++ sgS op).length + y2.length ≤ sizeLine) ∧ Q (.str (y1 ++ sgS op ++ y2)) Hf := fun y1 y2 Hf e1 e2 sf => by
      have l1 : y1.length = (shT (lvk op) t1).length := by rw [TL.len_tl, e1]
      have l2 : y2.length = (shT (lvk op + 1) t2).length := by rw [TL.len_tl, e2]
      have l3 := sg_len op
      refine ⟨⟨line8 (by omega), by rw [len_app]; exact line8 (by omega)⟩, k _ Hf ?_ sf⟩
      rw [TL.tl_append, TL.tl_append, e1, e2, tl_sg]
      rfl
    refine first H2 _ _ _ _ rfl s2 fun H3 s3 => ?_
    have S3 := S2.trans s3
    have ehh : H3 ta = some (.tup (.str (opS op) :: [.ref b, .ref c])) := s3 _ _ e
    have xb3 := xb.keep (same_tk s3)
    have xc3 := xc.keep (same_tk s3)
    have e3 := s3 _ _ e2
    rw [show inV (.str (headS (.bin op t1 t2))) [.str "plus", .str "minus"] = !op.strong from inV_op1 op]
    cases hs : op.strong with
    | false =>
      have lk : lvk op = 0 := by unfold lvk; rw [hs]; rfl
      rw [lk] at fin b1 b2
      rw [sh_zero] at fin b1
      refine iteT ?_
      refine ⟨_, rfl, ta, _, 1, .ref b, rfl, rfl, .inl (.inl ehh), atI_nat (j := 1) rfl, b, t1, dq, rfl, by omega, by omega, ok1, xb3, fun y1 H4 ty1 s4 => ?_⟩
      have l1 : y1.length = (lsT t1).length := by rw [TL.len_tl, ty1]
      refine ⟨rfl, fun sg H5 s5 dg => ?_⟩
      have s45 := s4.trans s5
      have eh5 := s45 _ _ ehh
      refine ⟨_, rfl, ta, _, 0, .str (opS op), rfl, rfl, .inl (.inl eh5), atI_nat (j := 0) rfl, sg, _, rfl, dg op, _, _, rfl, rfl, by rw [sg_len op]; exact line8 (by omega), ?_⟩
      refine ⟨_, rfl, ta, _, 2, .ref c, rfl, rfl, .inl (.inl eh5), atI_nat (j := 2) rfl, half H5 _ _ rfl (s45 _ _ e3) fun p H6 s6 sp => ?_⟩
      refine ⟨c, p, t2, dq, 1, rfl, by omega, by omega, ok2, (xc3.keep (same_tk s45)).keep (same_tk s6), by decide, sp, fun y2 H7 ty2 s7 => ?_⟩
      obtain ⟨⟨q1, q2⟩, q3⟩ := fin y1 y2 H7 ty1 ty2 (((S3.trans s45).trans s6).trans s7)
      exact ⟨_, _, rfl, rfl, q2, q3⟩
    | true =>
      have lk : lvk op = 1 := by unfold lvk; rw [hs]; rfl
      rw [lk] at fin b1 b2
      refine iteF ?_
      refine ⟨_, rfl, ta, _, 1, .ref b, rfl, rfl, .inl (.inl ehh), atI_nat (j := 1) rfl, half H3 _ _ rfl e3 fun p H4 s4 sp => ?_⟩
      refine ⟨b, p, t1, dq, 1, rfl, by omega, by omega, ok1, xb3.keep (same_tk s4), by decide, sp, fun y1 H5 ty1 s5 => ?_⟩
      have l1 : y1.length = (shT 1 t1).length := by rw [TL.len_tl, ty1]
      refine ⟨rfl, fun sg H6 s6 dg => ?_⟩
      have s456 := (s4.trans s5).trans s6
      have eh5 := s456 _ _ ehh
      refine ⟨_, rfl, ta, _, 0, .str (opS op), rfl, rfl, .inl (.inl eh5), atI_nat (j := 0) rfl, sg, _, rfl, dg op, _, _, rfl, rfl, by rw [sg_len op]; exact line8 (by omega), ?_⟩
      refine ⟨_, rfl, ta, _, 2, .ref c, rfl, rfl, .inl (.inl eh5), atI_nat (j := 2) rfl, _, rfl, ?_⟩
      refine ⟨c, tw, t2, dq, 2, rfl, by omega, by omega, ok2, xc3.keep (same_tk s456), Nat.le_refl 2, SqL.of (s456 _ _ e3), fun y2 H7 ty2 s7 => ?_⟩
      obtain ⟨⟨q1, q2⟩, q3⟩ := fin y1 y2 H7 ty1 ty2 ((S3.trans s456).trans s7)
      exact ⟨_, _, rfl, rfl, q2, q3⟩
theorem ok_ts {f g : Addr} {fd gd : FuncData} (F : FunD K "_law_text" "_law_text" (defArgs s_law_text) (defBody s_law_text) (defScope s_law_text) [] [] f fd) (G : FunD K "_law_shut" "_law_shut" (defArgs s_law_shut) (defBody s_law_shut) (defScope s_law_shut) [] [] g gd) (T : Fre mg) (m : mg "_law_text" = some (.ref f)) (mp : mg "_law_shut" = some (.ref g)) (o_law_signs : Own P w K mg base CX0 1 "_law_signs" [] [] spSigns) : ∀ n : Nat, FnOk P w K mg base CX0 (n + n + 3) f fd ["_law_tree_here"] (spTx n) ∧ FnOk P w K mg base CX0 (n + n + 4) g gd ["_law_tree_here", "_law_kinds"] (spSh K n) := by
  have ow : ∀ n, FnOk P w K mg base CX0 (n + n + 3) f fd ["_law_tree_here"] (spTx n) → Own P w K mg base CX0 (n + n + 3) "_law_text" ["_law_tree_here"] [] (spTx n) := fun n h => own_of F h m fun _ _ _ _ _ _ us hl => match us, hl with | [_], _ => rfl
  have shut : ∀ n, FnOk P w K mg base CX0 (n + n + 3) f fd ["_law_tree_here"] (spTx n) → FnOk P w K mg base CX0 (n + n + 4) g gd ["_law_tree_here", "_law_kinds"] (spSh K n) := fun n h => ok_law_shut G T (ow n h)
  intro n
  induction n with
  | zero =>
    have h : FnOk P w K mg base CX0 (0 + 0 + 3) f fd ["_law_tree_here"] (spTx 0) := ⟨fun _ _ _ _ h => h.elim, fun _ _ _ _ _ _ _ _ _ _ _ _ _ h => h.elim⟩
    exact ⟨h, shut 0 h⟩
  | succ n ih =>
    have h : FnOk P w K mg base CX0 (n + 1 + (n + 1) + 3) f fd ["_law_tree_here"] (spTx (n + 1)) := by
      rw [show n + 1 + (n + 1) + 3 = (n + n + 4) + 1 by omega]
      exact ok_law_text F T (by omega) (show n + n + 3 ≤ n + n + 4 by omega) (own_of G ih.2 mp fun _ _ _ _ _ _ us hl => match us, hl with | [_, _], _ => rfl) (ow n ih.1) o_law_signs
    exact ⟨h, shut (n + 1) h⟩
theorem ok_ts5 {f g : Addr} {fd gd : FuncData} (F : FunD K "_law_text" "_law_text" (defArgs s_law_text) (defBody s_law_text) (defScope s_law_text) [] [] f fd) (G : FunD K "_law_shut" "_law_shut" (defArgs s_law_shut) (defBody s_law_shut) (defScope s_law_shut) [] [] g gd) (T : Fre mg) (m : mg "_law_text" = some (.ref f)) (mp : mg "_law_shut" = some (.ref g)) (o_law_signs : Own P w K mg base CX0 1 "_law_signs" [] [] spSigns) : FnOk P w K mg base CX0 13 f fd ["_law_tree_here"] (spTx 5) := (ok_ts F G T m mp o_law_signs 5).1
theorem ok_tree5 {f : Addr} {fd : FuncData} (F : FunD K "_law_tree" "_law_tree" (defArgs s_law_tree) (defBody s_law_tree) (defScope s_law_tree) [] [] f fd) (T : Fre mg) (m : mg "_law_tree" = some (.ref f)) (o_law_take : Own P w K mg base CX0 1 "_law_take" ["_law_draw", "_law_sides"] [] spTake) (o_law_of : Own P w K mg base CX0 2 "_law_of" ["_law_draw", "_law_row"] [] (spOf K)) : FnOk P w K mg base CX0 8 f fd ["_law_draw", "_law_names", "_law_deep"] (spTree K 5) := ok_law_tree F T m o_law_take o_law_of 5
end
end Xk
end
section
set_option Elab.async false
set_option linter.all false
set_option maxRecDepth 100000
set_option maxHeartbeats 4000000
namespace Xk
open PySem PySem.Spec PyProof.Rows L2 Xh LamX NdefX
/-! ### a tree's text by the program -/
open Xp (Tr Op Wt Tk Aw)
def wordsK : List Str := ["plus", "minus", "times", "over"]
def sg1 (k : Op) : Str := ⟨(opL k).toArray⟩
theorem sg1_tl (k : Op) : TL.tl (sg1 k) = opL k := by cases k <;> rfl
theorem sg1_len (k : Op) : (sg1 k).length = 1 := by cases k <;> rfl
theorem hd_nm (k : Op) : decide (V.str (opS k) = V.str "name") = false ∧ decide (V.str (opS k) = V.str "number") = false := by cases k <;> exact ⟨by decide +kernel, by decide +kernel⟩
def spWr : Nat → Sp
  | 0 => fun _ _ _ _ => False
  | n + 1 => fun vs H Q _ => ∃ (ta : Addr) (t : Tr) (dp : Nat), vs = [.ref ta] ∧ dp ≤ n ∧ dp ≤ 4 ∧ OkT dp t ∧ TreeAt H ta t ∧ ∀ (y : Str) (H' : Hp), TL.tl y = lsT t → Same H H' → Q (.str y) H'
def spBr (K : PySem.W.Frag) : Nat → Sp
  | 0 => fun _ _ _ _ => False
  | n + 1 => fun vs H Q _ => ∃ (ta kn : Addr) (t : Tr) (dp m : Nat), vs = [.ref ta, .ref kn] ∧ dp ≤ n ∧ dp ≤ 4 ∧ OkT dp t ∧ TreeAt H ta t ∧ m ≤ 2 ∧ (SqL K H kn (kindsL m) ∨ SqT K H kn (kindsL m)) ∧ ∀ (y : Str) (H' : Hp), TL.tl y = shT m t → Same H H' → Q (.str y) H'
theorem spWr_len : ∀ (n : Nat) (vs : List V) (H : Hp) (Q : VK) (E : XK), spWr n vs H Q E → vs.length = (["tree"] : List Str).length
  | 0, _, _, _, _, h => h.elim
  | n + 1, _, _, _, _, ⟨_, _, _, e, _⟩ => by rw [e]; rfl
theorem spBr_len {K : PySem.W.Frag} : ∀ (n : Nat) (vs : List V) (H : Hp) (Q : VK) (E : XK), spBr K n vs H Q E → vs.length = (["tree", "kinds"] : List Str).length
  | 0, _, _, _, _, h => h.elim
  | n + 1, _, _, _, _, ⟨_, _, _, _, _, e, _⟩ => by rw [e]; rfl
theorem em_app (y : Str) : TL.tl (Str.empty ++ y) = TL.tl y := by rw [TL.tl_append]; rfl
section
variable {P : Program} {w : World} {K : PySem.W.Frag} {mg : Str → Option Value} {base : Heap}
theorem sc_bracketed : FnScope (["tree", "kinds"] : List Str) ["tree", "kinds"] (defScope s_bracketed) := ⟨rfl, rfl, rfl, by decide +kernel, rfl, by decide +kernel, by decide +kernel⟩
theorem ok_bracketed {f : Addr} {fd : FuncData} {n L : Nat} (F : FunD K "bracketed" "bracketed" (defArgs s_bracketed) (defBody s_bracketed) (defScope s_bracketed) [] [] f fd) (T : Fre mg) (o_write : Own P w K mg base CX0 L "write" ["tree"] [] (spWr n)) : FnOk P w K mg base CX0 (L + 1) f fd ["tree", "kinds"] (spBr K n) := by
  refine F.ok sc_bracketed (spBr_len _) (fun cdv A outer s H vs Q E hr h => ?_)
  cases n with
  | zero => exact h.elim
  | succ n =>
  obtain ⟨ta, kn, t, dp, m, rfl, hd, h3, ok, x, hm, hS, k⟩ := h
  refine ⟨_, PSs.nox (pss_cons (ps_if (pt_cmpR op_in_seq (pe_ix ix_tup (pv 0) pe_int (fun _ _ => rfl)) (pv 1) (by rfl)) (pss_one (ps_ret (pe_joined (.cons pe_str (.cons (pe_fmt (pe_own o_write hr rfl pass0 (pa_cons (pv 0) pa_nil))) (.cons pe_str .nil)))))) pss_nil)
      (pss_one (ps_ret (pe_own o_write hr rfl pass0 (pa_cons (pv 0) pa_nil))))) , ?_⟩
  obtain ⟨xs, eh⟩ := x.head
  have m3 := mx_hi h3
  have cl := lsT_len ok
  refine ⟨_, rfl, ta, _, 0, .str (headS t), rfl, rfl, .inl (.inl eh), atI_nat (j := 0) rfl, _, rfl, kn, kindsL m, rfl, hS, rfl, ?_, ?_⟩
  · rcases (by omega : m = 0 ∨ m = 1 ∨ m = 2) with rfl | rfl | rfl <;> rfl
  refine ⟨_, rfl, ?_⟩
  show if inV (V.str (headS t)) (kindsL m) = true then _ else _
  rw [inV_head t hm]
  by_cases g : lvl t < m
  · rw [decide_eq_true g]
    refine iteT ⟨_, rfl, by decide, _, rfl, ta, t, dp, rfl, hd, h3, ok, x, fun y H1 ty s1 => ?_⟩
    have ly : y.length = (lsT t).length := by rw [TL.len_tl, ty]
    refine .inl ⟨y, rfl, line8 (by omega), y, rfl, ?_, _, rfl, ?_, k _ H1 ?_ s1⟩
    · rw [len_app, len_app]
      exact line8 (by show 0 + 1 + y.length ≤ 10000; omega)
    · rw [len_app, len_app, len_app]
      exact line8 (by show 0 + 1 + y.length + 1 ≤ 10000; omega)
    · unfold shT
      rw [TL.tl_append, TL.tl_append, TL.tl_append, ty, if_pos g]
      rfl
  · rw [decide_eq_false g]
    refine iteF ⟨_, rfl, ta, t, dp, rfl, hd, h3, ok, x, fun y H1 ty s1 => k y H1 ?_ s1⟩
    unfold shT
    rw [if_neg g]
    exact ty
theorem sc_write : FnScope (["tree", "kind"] : List Str) ["tree"] (defScope s_write) := ⟨rfl, rfl, rfl, by decide +kernel, rfl, by decide +kernel, by decide +kernel⟩
theorem ok_write {f aG aW : Addr} {fd : FuncData} {n L M : Nat} (F : FunD K "write" "write" (defArgs s_write) (defBody s_write) (defScope s_write) [] [] f fd) (T : Fre mg) (hT1 : M ≤ L) (mG : mg "SIGNS" = some (.ref aG)) (mW : mg "WEAK" = some (.ref aW)) (hG : ∀ k : Op, KDct K w aG (opS k) (.str (sg1 k))) (kG : KKeys K w aG wordsK) (hW : ∀ H, SqT K H aW (kindsL 1)) (o_bracketed : Own P w K mg base CX0 L "bracketed" ["tree", "kinds"] [] (spBr K n)) (o_write : Own P w K mg base CX0 M "write" ["tree"] [] (spWr n)) : FnOk P w K mg base CX0 (L + 1) f fd ["tree"] (spWr (n + 1)) := by
  refine F.ok sc_write (spWr_len _) (fun cdv A outer s H vs Q E hr h => ?_)
  obtain ⟨ta, t, dp, rfl, hd, h3, ok, x, k⟩ := h
  refine ⟨_, PSs.nox (pss_cons (ps_set (i := 1) sc_write.nd rfl (Or.inl rfl) (pe_ix ix_tup (pv 0) pe_int (fun _ _ => rfl)))
      (pss_cons (ps_if (pt_cmpR op_eq (pv 1) pe_str (nomark _)) (pss_one (ps_ret (pe_ix ix_tup (pv 0) pe_int (fun _ _ => rfl)))) pss_nil)
      (pss_cons (ps_if (pt_cmpR op_eq (pv 1) pe_str (nomark _)) (pss_one (ps_ret (pe_callTy call_str_int (by rfl) T.f_str (by decide +kernel) (pa_cons (pe_ix ix_tup (pv 0) pe_int (fun _ _ => rfl)) pa_nil)))) pss_nil)
      (pss_cons (ps_if (pt_cmpR op_eq (pv 1) pe_str (nomark _)) (pss_one (ps_ret (pe_joined (.cons (pe_fmt (pe_own o_bracketed hr rfl pass0 (pa_cons (pe_ix ix_tup (pv 0) pe_int (fun _ _ => rfl)) (pa_cons (pe_callTy (call_listKD rfl) (by rfl) T.f_list (by decide +kernel) (pa_cons (pe_glob (v := .ref aG) rfl mG rfl) pa_nil)) pa_nil)))) (.cons pe_str .nil))))) pss_nil)
      (pss_cons (ps_if (pt_cmpR op_eq (pv 1) pe_str (nomark _)) (pss_one (ps_ret (pe_joined (.cons (pe_fmt (pe_own o_bracketed hr rfl pass0 (pa_cons (pe_ix ix_tup (pv 0) pe_int (fun _ _ => rfl)) (pa_cons (pe_callTy (call_listKD rfl) (by rfl) T.f_list (by decide +kernel) (pa_cons (pe_glob (v := .ref aG) rfl mG rfl) pa_nil)) pa_nil)))) (.cons pe_str (.cons (pe_fmt (pe_ix ix_tup (pv 0) pe_int (fun _ _ => rfl))) .nil)))))) pss_nil)
      (pss_cons (ps_if (pt_cmpR op_in_seq (pv 1) (pe_glob (v := .ref aW) rfl mW rfl) (by rfl)) (pss_one (ps_ret (pe_joined (.cons (pe_fmt (pe_own o_write (hr.mono hT1) rfl pass0 (pa_cons (pe_ix ix_tup (pv 0) pe_int (fun _ _ => rfl)) pa_nil))) (.cons pe_str (.cons (pe_fmt (pe_ix ix_kdict (pe_glob (v := .ref aG) rfl mG rfl) (pv 1) (fun _ _ => rfl))) (.cons pe_str (.cons (pe_fmt (pe_own o_bracketed hr rfl pass0 (pa_cons (pe_ix ix_tup (pv 0) pe_int (fun _ _ => rfl)) (pa_cons (pe_glob (v := .ref aW) rfl mW rfl) pa_nil)))) .nil)))))))) pss_nil)
      (pss_one (ps_ret (pe_joined (.cons (pe_fmt (pe_own o_bracketed hr rfl pass0 (pa_cons (pe_ix ix_tup (pv 0) pe_int (fun _ _ => rfl)) (pa_cons (pe_glob (v := .ref aW) rfl mW rfl) pa_nil)))) (.cons pe_str (.cons (pe_fmt (pe_ix ix_kdict (pe_glob (v := .ref aG) rfl mG rfl) (pv 1) (fun _ _ => rfl))) (.cons pe_str (.cons (pe_fmt (pe_own o_bracketed hr rfl pass0 (pa_cons (pe_ix ix_tup (pv 0) pe_int (fun _ _ => rfl)) (pa_cons (pe_callTy (call_listKD rfl) (by rfl) T.f_list (by decide +kernel) (pa_cons (pe_glob (v := .ref aG) rfl mG rfl) pa_nil)) pa_nil)))) .nil)))))))))))))) , ?_⟩
  obtain ⟨xs, eh⟩ := x.head
  have m3 := mx_hi h3
  refine ⟨_, rfl, ta, _, 0, .str (headS t), rfl, rfl, .inl (.inl eh), atI_nat (j := 0) rfl, ?_⟩
  have eqK : ∀ (H2 : Hp) (G : Bool → Hp → Prop) (z : Str) (σ : L2.St), σ[1]? = some (some (.str (headS t))) → G (decide (V.str (headS t) = V.str z)) H2 → tTest (tOp rEq (tVar 1) (tC (.str z))) σ H2 G := fun H2 G z σ hσ g => ⟨_, hσ, rfl, _, rfl, g⟩
  refine eqK _ _ _ _ rfl ?_
  cases t with
  | name v =>
    obtain ⟨z, e, ez⟩ := x
    rw [show decide (V.str (headS (.name v)) = V.str "name") = true from decide_eq_true rfl]
    exact iteT ⟨_, rfl, ta, _, 1, V.str z, rfl, rfl, .inl (.inl e), atI_nat (j := 1) rfl, k z H ez (fun _ _ e => e)⟩
  | num v =>
    have hv : v < 1000000 := by cases dp <;> exact ok
    have e : H ta = some (.tup [.str "number", .int (v : Int)]) := x
    rw [show decide (V.str (headS (.num v)) = V.str "name") = false from by show decide (V.str "number" = V.str "name") = false; decide +kernel]
    refine iteF (eqK _ _ _ _ rfl ?_)
    rw [show decide (V.str (headS (.num v)) = V.str "number") = true from decide_eq_true rfl]
    have ez : TL.tl (Str.ofString (toString (v : Int))) = TL.numL v := TL.tl_num v
    exact iteT ⟨_, rfl, ta, _, 1, V.int (v : Int), rfl, rfl, .inl (.inl e), atI_nat (j := 1) rfl, (v : Int), rfl, log_ok hv, k (Str.ofString (toString (v : Int))) H ez (fun _ _ e => e)⟩
  | turned t1 =>
    obtain ⟨b, e, xb⟩ := x
    rw [show decide (V.str (headS (.turned t1)) = V.str "name") = false from by show decide (V.str "turned" = V.str "name") = false; decide +kernel]
    refine iteF (eqK _ _ _ _ rfl ?_)
    rw [show decide (V.str (headS (.turned t1)) = V.str "number") = false from by show decide (V.str "turned" = V.str "number") = false; decide +kernel]
    refine iteF (eqK _ _ _ _ rfl ?_)
    rw [show decide (V.str (headS (.turned t1)) = V.str "turned") = true from decide_eq_true rfl]
    refine iteT ?_
    obtain ⟨dq, rfl⟩ : ∃ dq, dp = dq + 1 := by
      cases dp with
      | zero => exact ok.elim
      | succ dq => exact ⟨dq, rfl⟩
    obtain ⟨n', rfl⟩ : ∃ n', n = n' + 1 := ⟨n - 1, by omega⟩
    have ms := mx_s dq
    have ml := mx_lo dq
    have l1 := sh_len (lsT_len (d := dq) (t := t1) ok) 2
    refine ⟨_, rfl, ta, _, 1, .ref b, rfl, rfl, .inl (.inl e), atI_nat (j := 1) rfl, aG, wordsK, rfl, kG, by decide, fun p hp => ?_⟩
    have sp := same_upd (o := .lst (wordsK.map V.str)) hp
    refine ⟨b, p, t1, dq, 2, rfl, by omega, by omega, ok, xb.keep (same_tk sp), Nat.le_refl 2, .inl (SqL.of upd_same), fun y H3 ty s3 => ?_⟩
    have ly : y.length = (shT 2 t1).length := by rw [TL.len_tl, ty]
    refine .inl ⟨y, rfl, line8 (by omega), y, rfl, ?_, _, rfl, ?_, k _ H3 ?_ (sp.trans s3)⟩
    · rw [len_app]
      exact line8 (by show 0 + y.length ≤ 10000; omega)
    · rw [len_app, len_app]
      exact line8 (by show 0 + y.length + 1 ≤ 10000; omega)
    · rw [TL.tl_append, em_app, ty]
      rfl
  | power t1 ex =>
    obtain ⟨b, e, xb⟩ := x
    rw [show decide (V.str (headS (.power t1 ex)) = V.str "name") = false from by show decide (V.str "power" = V.str "name") = false; decide +kernel]
    refine iteF (eqK _ _ _ _ rfl ?_)
    rw [show decide (V.str (headS (.power t1 ex)) = V.str "number") = false from by show decide (V.str "power" = V.str "number") = false; decide +kernel]
    refine iteF (eqK _ _ _ _ rfl ?_)
    rw [show decide (V.str (headS (.power t1 ex)) = V.str "turned") = false from op_pt]
    refine iteF (eqK _ _ _ _ rfl ?_)
    rw [show decide (V.str (headS (.power t1 ex)) = V.str "power") = true from decide_eq_true rfl]
    refine iteT ?_
    obtain ⟨dq, rfl⟩ : ∃ dq, dp = dq + 1 := by
      cases dp with
      | zero => exact ok.elim
      | succ dq => exact ⟨dq, rfl⟩
    obtain ⟨hex, ok⟩ : ex.natAbs < 1000000 ∧ OkT dq t1 := ok
    obtain ⟨n', rfl⟩ : ∃ n', n = n' + 1 := ⟨n - 1, by omega⟩
    have ms := mx_s dq
    have ml := mx_lo dq
    have l1 := sh_len (lsT_len (d := dq) (t := t1) ok) 2
    have et := tl_intT ex
    have lt : (Str.ofString (toString ex)).length ≤ 7 := by
      rw [TL.len_tl, et]
      exact numT_len hex
    refine ⟨_, rfl, ta, _, 1, .ref b, rfl, rfl, .inl (.inl e), atI_nat (j := 1) rfl, aG, wordsK, rfl, kG, by decide, fun p hp => ?_⟩
    have sp := same_upd (o := .lst (wordsK.map V.str)) hp
    refine ⟨b, p, t1, dq, 2, rfl, by omega, by omega, ok, xb.keep (same_tk sp), Nat.le_refl 2, .inl (SqL.of upd_same), fun y H3 ty s3 => ?_⟩
    have ly : y.length = (shT 2 t1).length := by rw [TL.len_tl, ty]
    refine .inl ⟨y, rfl, line8 (by omega), y, rfl, ?_, _, rfl, ?_, _, rfl, ta, _, 2, .int ex, rfl, rfl, .inl (.inl (s3 _ _ (sp _ _ e))), atI_nat (j := 2) rfl, .inr ⟨ex, rfl, ?_, _, rfl, ?_, k _ H3 ?_ (sp.trans s3)⟩⟩
    · rw [len_app]
      exact line8 (by show 0 + y.length ≤ 10000; omega)
    · rw [len_app, len_app]
      exact line8 (by show 0 + y.length + 1 ≤ 10000; omega)
    · have := log_ok hex
      rwa [Int.natAbs_natCast] at this
    · rw [len_app, len_app, len_app]
      exact line8 (by show 0 + y.length + 1 + (Str.ofString (toString ex)).length ≤ 10000; omega)
    · rw [TL.tl_append, TL.tl_append, em_app, ty]
      show shT 2 t1 ++ [94] ++ TL.tl (Str.ofString (toString ex)) = _
      rw [et]
      rfl
  | bin op t1 t2 =>
    obtain ⟨b, c, e, xb, xc⟩ := x
    rw [show decide (V.str (headS (.bin op t1 t2)) = V.str "name") = false from (hd_nm op).1]
    refine iteF (eqK _ _ _ _ rfl ?_)
    rw [show decide (V.str (headS (.bin op t1 t2)) = V.str "number") = false from (hd_nm op).2]
    refine iteF (eqK _ _ _ _ rfl ?_)
    rw [show decide (V.str (headS (.bin op t1 t2)) = V.str "turned") = false from (op_nt op).1]
    refine iteF (eqK _ _ _ _ rfl ?_)
    rw [show decide (V.str (headS (.bin op t1 t2)) = V.str "power") = false from (op_nt op).2]
    refine iteF ?_
    obtain ⟨dq, rfl⟩ : ∃ dq, dp = dq + 1 := by
      cases dp with
      | zero => exact ok.elim
      | succ dq => exact ⟨dq, rfl⟩
    obtain ⟨ok1, ok2⟩ : OkT dq t1 ∧ OkT dq t2 := ok
    obtain ⟨n', rfl⟩ : ∃ n', n = n' + 1 := ⟨n - 1, by omega⟩
    have ms := mx_s dq
    have ml := mx_lo dq
    have b1 := sh_len (lsT_len ok1) (lvk op)
    have b2 := sh_len (lsT_len ok2) (lvk op + 1)
    have lo := sg1_len op
    have lens : ∀ y1 y2 : Str, TL.tl y1 = shT (lvk op) t1 → TL.tl y2 = shT (lvk op + 1) t2 → y1.length + 17 ≤ mx dq ∧ y2.length + 17 ≤ mx dq := fun y1 y2 e1 e2 => by
      rw [TL.len_tl y1, e1, TL.len_tl y2, e2]
      exact ⟨b1, b2⟩
    have fin : ∀ (y1 y2 : Str) (Hf : Hp), TL.tl y1 = shT (lvk op) t1 → TL.tl y2 = shT (lvk op + 1) t2 → Same H Hf → Q (.str (Str.empty ++ y1 ++ Str.ofString " " ++ sg1 op ++ Str.ofString " " ++ y2)) Hf := fun y1 y2 Hf e1 e2 sf => by
      refine k _ Hf ?_ sf
      rw [TL.tl_append, TL.tl_append, TL.tl_append, TL.tl_append, em_app, e1, e2, sg1_tl]
      show shT (lvk op) t1 ++ [32] ++ opL op ++ [32] ++ shT (lvk op + 1) t2 = shT (lvk op) t1 ++ ([32] ++ opL op ++ [32]) ++ shT (lvk op + 1) t2
      simp
    refine ⟨_, rfl, aW, kindsL 1, rfl, .inr (hW _), rfl, rfl, _, rfl, ?_⟩
    show if inV (V.str (opS op)) (kindsL 1) = true then _ else _
    rw [show inV (V.str (opS op)) (kindsL 1) = !op.strong from inV_op1 op]
    cases hs : op.strong with
    | false =>
      have lk : lvk op = 0 := by unfold lvk; rw [hs]; rfl
      rw [lk] at fin lens
      rw [sh_zero] at fin lens
      refine iteT ⟨_, rfl, ta, _, 1, .ref b, rfl, rfl, .inl (.inl e), atI_nat (j := 1) rfl, b, t1, dq, rfl, by omega, by omega, ok1, xb, fun y1 H3 ty1 s3 => ?_⟩
      have l1 : y1.length ≤ 700 := by
        have := lsT_len ok1
        rw [TL.len_tl, ty1]
        omega
      refine .inl ⟨y1, rfl, line8 (by omega), y1, rfl, ?_, _, rfl, ?_, _, rfl, aG, opS op, _, rfl, rfl, hG op, .inl ⟨sg1 op, rfl, ?_, _, rfl, ?_, _, rfl, ?_, _, rfl, ta, _, 2, .ref c, rfl, rfl, .inl (.inl (s3 _ _ e)), atI_nat (j := 2) rfl, c, aW, t2, dq, 1, rfl, by omega, by omega, ok2, xc.keep (same_tk s3), by decide, .inr (hW _), fun y2 H4 ty2 s4 => ?_⟩⟩
      · rw [len_app]
        exact line8 (by show 0 + y1.length ≤ 10000; omega)
      · rw [len_app, len_app]
        exact line8 (by show 0 + y1.length + 1 ≤ 10000; omega)
      · rw [lo]
        exact line8 (by decide)
      · rw [len_app, len_app, len_app, lo]
        exact line8 (by show 0 + y1.length + 1 + 1 ≤ 10000; omega)
      · rw [len_app, len_app, len_app, len_app, lo]
        exact line8 (by show 0 + y1.length + 1 + 1 + 1 ≤ 10000; omega)
      · obtain ⟨q1, q2⟩ := lens y1 y2 ty1 ty2
        refine .inl ⟨y2, rfl, line8 (by omega), y2, rfl, ?_, fin y1 y2 H4 ty1 ty2 (s3.trans s4)⟩
        rw [len_app, len_app, len_app, len_app, len_app, lo]
        exact line8 (by show 0 + y1.length + 1 + 1 + 1 + y2.length ≤ 10000; omega)
    | true =>
      have lk : lvk op = 1 := by unfold lvk; rw [hs]; rfl
      rw [lk] at fin lens b1
      refine iteF ⟨_, rfl, ta, _, 1, .ref b, rfl, rfl, .inl (.inl e), atI_nat (j := 1) rfl, b, aW, t1, dq, 1, rfl, by omega, by omega, ok1, xb, by decide, .inr (hW _), fun y1 H3 ty1 s3 => ?_⟩
      have l1 : y1.length ≤ 700 := by
        rw [TL.len_tl, ty1]
        omega
      refine .inl ⟨y1, rfl, line8 (by omega), y1, rfl, ?_, _, rfl, ?_, _, rfl, aG, opS op, _, rfl, rfl, hG op, .inl ⟨sg1 op, rfl, ?_, _, rfl, ?_, _, rfl, ?_, _, rfl, ta, _, 2, .ref c, rfl, rfl, .inl (.inl (s3 _ _ e)), atI_nat (j := 2) rfl, aG, wordsK, rfl, kG, by decide, fun p hp => ?_⟩⟩
      · rw [len_app]
        exact line8 (by show 0 + y1.length ≤ 10000; omega)
      · rw [len_app, len_app]
        exact line8 (by show 0 + y1.length + 1 ≤ 10000; omega)
      · rw [lo]
        exact line8 (by decide)
      · rw [len_app, len_app, len_app, lo]
        exact line8 (by show 0 + y1.length + 1 + 1 ≤ 10000; omega)
      · rw [len_app, len_app, len_app, len_app, lo]
        exact line8 (by show 0 + y1.length + 1 + 1 + 1 ≤ 10000; omega)
      · have sp := same_upd (o := .lst (wordsK.map V.str)) hp
        refine ⟨c, p, t2, dq, 2, rfl, by omega, by omega, ok2, (xc.keep (same_tk s3)).keep (same_tk sp), Nat.le_refl 2, .inl (SqL.of upd_same), fun y2 H4 ty2 s4 => ?_⟩
        obtain ⟨q1, q2⟩ := lens y1 y2 ty1 ty2
        refine .inl ⟨y2, rfl, line8 (by omega), y2, rfl, ?_, fin y1 y2 H4 ty1 ty2 ((s3.trans sp).trans s4)⟩
        rw [len_app, len_app, len_app, len_app, len_app, lo]
        exact line8 (by show 0 + y1.length + 1 + 1 + 1 + y2.length ≤ 10000; omega)
theorem ok_ws {f g aG aW : Addr} {fd gd : FuncData} (F : FunD K "write" "write" (defArgs s_write) (defBody s_write) (defScope s_write) [] [] f fd) (G : FunD K "bracketed" "bracketed" (defArgs s_bracketed) (defBody s_bracketed) (defScope s_bracketed) [] [] g gd) (T : Fre mg) (m : mg "write" = some (.ref f)) (mp : mg "bracketed" = some (.ref g)) (mG : mg "SIGNS" = some (.ref aG)) (mW : mg "WEAK" = some (.ref aW)) (hG : ∀ k : Op, KDct K w aG (opS k) (.str (sg1 k))) (kG : KKeys K w aG wordsK) (hW : ∀ H, SqT K H aW (kindsL 1)) : ∀ n : Nat, FnOk P w K mg base CX0 (n + n + 3) f fd ["tree"] (spWr n) ∧ FnOk P w K mg base CX0 (n + n + 4) g gd ["tree", "kinds"] (spBr K n) := by
  have ow : ∀ n, FnOk P w K mg base CX0 (n + n + 3) f fd ["tree"] (spWr n) → Own P w K mg base CX0 (n + n + 3) "write" ["tree"] [] (spWr n) := fun n h => own_of F h m fun _ _ _ _ _ _ us hl => match us, hl with | [_], _ => rfl
  have shut : ∀ n, FnOk P w K mg base CX0 (n + n + 3) f fd ["tree"] (spWr n) → FnOk P w K mg base CX0 (n + n + 4) g gd ["tree", "kinds"] (spBr K n) := fun n h => ok_bracketed G T (ow n h)
  intro n
  induction n with
  | zero =>
    have h : FnOk P w K mg base CX0 (0 + 0 + 3) f fd ["tree"] (spWr 0) := ⟨fun _ _ _ _ h => h.elim, fun _ _ _ _ _ _ _ _ _ _ _ _ _ h => h.elim⟩
    exact ⟨h, shut 0 h⟩
  | succ n ih =>
    have h : FnOk P w K mg base CX0 (n + 1 + (n + 1) + 3) f fd ["tree"] (spWr (n + 1)) := by
      rw [show n + 1 + (n + 1) + 3 = (n + n + 4) + 1 by omega]
      exact ok_write F T (show n + n + 3 ≤ n + n + 4 by omega) mG mW hG kG hW (own_of G ih.2 mp fun _ _ _ _ _ _ us hl => match us, hl with | [_, _], _ => rfl) (ow n ih.1)
    exact ⟨h, shut (n + 1) h⟩
theorem ok_write5 {f g aG aW : Addr} {fd gd : FuncData} (F : FunD K "write" "write" (defArgs s_write) (defBody s_write) (defScope s_write) [] [] f fd) (G : FunD K "bracketed" "bracketed" (defArgs s_bracketed) (defBody s_bracketed) (defScope s_bracketed) [] [] g gd) (T : Fre mg) (m : mg "write" = some (.ref f)) (mp : mg "bracketed" = some (.ref g)) (mG : mg "SIGNS" = some (.ref aG)) (mW : mg "WEAK" = some (.ref aW)) (hG : ∀ k : Op, KDct K w aG (opS k) (.str (sg1 k))) (kG : KKeys K w aG wordsK) (hW : ∀ H, SqT K H aW (kindsL 1)) : FnOk P w K mg base CX0 13 f fd ["tree"] (spWr 5) := (ok_ws F G T m mp mG mW hG kG hW 5).1
end
end Xk
end
section
set_option Elab.async false
set_option linter.all false
set_option maxRecDepth 100000
set_option maxHeartbeats 4000000
namespace Xk
open PySem PySem.Spec PyProof.Rows L2 Xh LamX NdefX
/-! ### a text less one pair of brackets -/
open Xp (Tr Op Wt Tk Aw)
/-- no more signs, an open bracket less -/
def Less (y z : Str) : Prop := z.length ≤ y.length ∧ (TL.tl z).count 40 + 1 ≤ (TL.tl y).count 40
def spWo : Sp := fun vs H Q _ => ∃ y : Str, vs = [.str y] ∧ y.length ≤ 5000 ∧ Bal (TL.tl y) ∧ ∀ (D : Addr) (zs : List Str) (H' : Hp), Same H H' → H D = none → H' D = some (.lst (zs.map V.str)) → zs.length ≤ y.length → (∀ z ∈ zs, Less y z) → Q (.ref D) H'
theorem tl_pre (y : Str) (m : Nat) : TL.tl (L2.cutS y none (some (m : Int))) = (TL.tl y).take m := by
  unfold L2.cutS
  rw [TL.tl_mk, HT.sIx_nat]
  show (y.cps.toList.drop 0).take (min m y.length - 0) = _
  rw [List.drop_zero, Nat.sub_zero, show y.cps.toList = TL.tl y from rfl]
  by_cases h : m ≤ y.length
  · rw [Nat.min_eq_left h]
  · rw [Nat.min_eq_right (by omega), List.take_of_length_le (by rw [← TL.len_tl]; omega), List.take_of_length_le (by rw [← TL.len_tl]; omega)]
theorem tl_suf (y : Str) (m : Nat) : TL.tl (L2.cutS y (some (m : Int)) none) = (TL.tl y).drop m := by
  unfold L2.cutS
  rw [TL.tl_mk, HT.sIx_nat]
  show (y.cps.toList.drop (min m y.length)).take (y.length - min m y.length) = _
  rw [show y.cps.toList = TL.tl y from rfl]
  rw [List.take_of_length_le (by rw [List.length_drop, ← TL.len_tl]; omega)]
  by_cases h : m ≤ y.length
  · rw [Nat.min_eq_left h]
  · rw [Nat.min_eq_right (by omega), List.drop_eq_nil_of_le (by rw [← TL.len_tl]; omega), List.drop_eq_nil_of_le (by rw [← TL.len_tl]; omega)]
theorem tl_mid (y : Str) (m n : Nat) (h : n ≤ y.length) (g : m ≤ n) : TL.tl (L2.cutS y (some (m : Int)) (some (n : Int))) = ((TL.tl y).drop m).take (n - m) := by
  unfold L2.cutS
  rw [TL.tl_mk, HT.sIx_nat, HT.sIx_nat]
  show (y.cps.toList.drop (min m y.length)).take (min n y.length - min m y.length) = _
  rw [show y.cps.toList = TL.tl y from rfl, Nat.min_eq_left h, Nat.min_eq_left (show m ≤ y.length by omega)]
theorem chr_eq (c d : Nat) : decide (V.str ⟨#[c]⟩ = V.str ⟨#[d]⟩) = decide (c = d) := by
  by_cases h : c = d
  · rw [decide_eq_true h, h]
    exact decide_eq_true rfl
  · rw [decide_eq_false h]
    refine decide_eq_false fun e => h ?_
    have := V.str.inj e
    simpa using this
theorem int_eq0 {i : Int} : decide (V.int i = V.int 0) = decide (i = 0) := by
  by_cases h : i = 0
  · rw [decide_eq_true h, h]
    exact decide_eq_true rfl
  · rw [decide_eq_false h]
    exact decide_eq_false fun e => h (V.int.inj e)
theorem bs_one (c : Nat) : bs [c] = (if c = 40 then 1 else 0) - (if c = 41 then 1 else 0) := by
  unfold bs
  rw [List.count_singleton, List.count_singleton]
  by_cases h : c = 40
  · subst h
    rfl
  · by_cases g : c = 41
    · subst g
      rfl
    · simp [h, g]
/-- what is left when a pair is left out -/
theorem less_cnt {l : List Nat} {a e : Nat} (h : l[a]? = some 40) (ha : a < e) (he : e < l.length) : (l.take a ++ (l.drop (a + 1)).take (e - (a + 1)) ++ l.drop (e + 1)).count 40 + 1 ≤ l.count 40 := by
  have hal : a < l.length := by omega
  have e1 : l.count 40 = (l.take a).count 40 + (l.drop a).count 40 := by
    rw [← List.count_append, List.take_append_drop]
  have e2 : l.drop a = 40 :: l.drop (a + 1) := by
    rw [List.drop_eq_getElem_cons hal]
    rw [List.getElem?_eq_getElem hal] at h
    rw [Option.some.inj h]
  have e3 : (l.drop (a + 1)).count 40 = ((l.drop (a + 1)).take (e - (a + 1))).count 40 + ((l.drop (a + 1)).drop (e - (a + 1))).count 40 := by
    rw [← List.count_append, List.take_append_drop]
  have e4 : (l.drop (a + 1)).drop (e - (a + 1)) = l.drop e := by
    rw [List.drop_drop]
    congr 1
    omega
  have e5 : (l.drop (e + 1)).count 40 ≤ (l.drop e).count 40 := by
    have : l.drop (e + 1) = (l.drop e).drop 1 := by
      rw [List.drop_drop]
    rw [this]
    exact List.Sublist.count_le 40 (List.drop_sublist 1 _)
  rw [e2, List.count_cons] at e1
  rw [e4] at e3
  rw [List.count_append, List.count_append]
  have : (if (40 : Nat) == 40 then 1 else 0) = 1 := rfl
  omega
section
variable {P : Program} {w : World} {K : PySem.W.Frag} {mg : Str → Option Value} {base : Heap}
theorem sc_law_without : FnScope (["_law_text_here", "_law_found", "_law_at", "_law_deep", "_law_end", "_law_spot", "_law_sign", "_law_inner"] : List Str) ["_law_text_here"] (defScope s_law_without) := ⟨rfl, rfl, rfl, by decide +kernel, rfl, by decide +kernel, by decide +kernel⟩
theorem ok_law_without {f : Addr} {fd : FuncData} (F : FunD K "_law_without" "_law_without" (defArgs s_law_without) (defBody s_law_without) (defScope s_law_without) [] [] f fd) (T : Fre mg) : FnOk P w K mg base CX0 1 f fd ["_law_text_here"] spWo := by
  refine F.ok sc_law_without (fun vs H Q E h => ?_) (fun cdv A outer s H vs Q E hr h => ?_)
  · obtain ⟨y, rfl, _⟩ := h
    rfl
  · obtain ⟨y, rfl, ly, bal, k⟩ := h
    refine ⟨_, PSs.nox (pss_cons (ps_set (i := 1) sc_law_without.nd rfl (Or.inl rfl) (pe_lst pa_nil))
      (pss_cons (ps_for PassesOwn.never rfl (pi_range1 (by rfl) T.f_range (pa_cons (pe_callB call_len_str (by rfl) T.f_len PySem.boot_len (pa_cons (pv 0) pa_nil)) pa_nil)) (pg_name (i := 2) sc_law_without.nd rfl (Or.inl rfl)) (pss_one (ps_if (pt_cmpR op_eq (pe_ix ix_str (pv 0) (pv 2) (fun _ _ => rfl)) pe_str (nomark _)) (pss_cons (ps_asg (pe_tup (pa_cons pe_int (pa_cons pe_int pa_nil))) (pg_tup rfl (pgs_cons (pg_name (i := 3) sc_law_without.nd rfl (Or.inl rfl)) (pgs_cons (pg_name (i := 4) sc_law_without.nd rfl (Or.inl rfl)) pgs_nil))))
      (pss_cons (ps_for PassesOwn.never rfl (pi_range2 (by rfl) T.f_range (pa_cons (pv 2) (pa_cons (pe_callB call_len_str (by rfl) T.f_len PySem.boot_len (pa_cons (pv 0) pa_nil)) pa_nil))) (pg_name (i := 5) sc_law_without.nd rfl (Or.inl rfl)) (pss_cons (ps_set (i := 6) sc_law_without.nd rfl (Or.inl rfl) (pe_ix ix_str (pv 0) (pv 5) (fun _ _ => rfl)))
      (pss_cons (ps_set (i := 3) sc_law_without.nd rfl (Or.inl rfl) (pe_op op_sub (pe_op op_add (pv 3) (pe_callTy call_int1 (by rfl) T.f_int (by decide +kernel) (pa_cons (pe_cmpR op_eq (pv 6) pe_str (nomark _)) pa_nil))) (pe_callTy call_int1 (by rfl) T.f_int (by decide +kernel) (pa_cons (pe_cmpR op_eq (pv 6) pe_str (nomark _)) pa_nil))))
      (pss_one (ps_if (PW.pt (pw_and (pt_cmpR op_eq (pv 3) pe_int (nomark _)) (pw_and1 (pt_cmpR op_eq (pv 4) pe_int (nomark _))))) (pss_one (ps_set (i := 4) sc_law_without.nd rfl (Or.inl rfl) (pv 5))) pss_nil)))))
      (pss_cons (ps_set (i := 7) sc_law_without.nd rfl (Or.inl rfl) (pe_slice sl_str (pv 0) (po_some (pe_op op_add (pv 2) pe_int)) (po_some (pv 4))))
      (pss_one (ps_expr (pe_bm PySem.F.plainAttrs_list PySem.F.slot_list_append PySem.F.type_list_append mt_append (pv 1) (pa_cons (pe_op op_add_str (pe_op op_add_str (pe_slice sl_str (pv 0) po_none (po_some (pv 2))) (pv 7)) (pe_slice sl_str (pv 0) (po_some (pe_op op_add (pv 4) pe_int)) po_none)) pa_nil))))))) pss_nil)))
      (pss_one (ps_ret (pv 1))))) , ?_⟩
    refine ⟨(by show 0 ≤ sizeLine; decide), fun D hD => ?_⟩
    have lt : y.length = (TL.tl y).length := TL.len_tl y
    refine ⟨_, rfl, y, rfl, line8 (by omega), _, rfl, by omega, by omega, ?_⟩
    refine for_range (lo := 0) (n := ((y.length : Nat) : Int).toNat) (fun i σ' H' => ∃ (zs : List Str) (x2 x3 x4 x5 x6 x7 : Option V), σ' = [some (.str y), some (.ref D), x2, x3, x4, x5, x6, x7] ∧ Same H H' ∧ H' D = some (.lst (zs.map V.str)) ∧ zs.length ≤ i ∧ ∀ z ∈ zs, Less y z) ⟨[], _, _, _, _, _, _, rfl, same_upd hD, upd_same, Nat.le_refl _, fun z hz => by cases hz⟩ ?_ ?_
    · rintro i σ' H1 hi ⟨zs, x2, x3, x4, x5, x6, x7, rfl, s1, e1, l1, g1⟩
      have hi : i < y.length := by omega
      obtain ⟨c, hc⟩ : ∃ c, (TL.tl y)[i]? = some c := ⟨_, List.getElem?_eq_getElem (by omega)⟩
      refine ⟨_, rfl, _, rfl, y, _, c, rfl, rfl, line8 (by omega), by rw [Int.zero_add]; exact atI_nat hc, rfl, _, rfl, ?_⟩
      rw [show decide (V.str ⟨#[c]⟩ = V.str (Str.ofString "(")) = decide (c = 40) from chr_eq c 40]
      by_cases g40 : c = 40
      · rw [decide_eq_true g40]
        refine iteT ⟨(by show 2 ≤ sizeLine; decide), fun p hp => ⟨p, _, rfl, .inl (.inl upd_same), rfl, _, _, rfl, _, _, rfl, rfl, ?_⟩⟩
        have sp := same_upd (o := .tup [.int 0, .int 0]) hp
        have s2 := s1.trans sp
        have e2 := sp _ _ e1
        show tSeq _ _ _ _ (L2.upd H1 p (.tup [.int 0, .int 0]))
        generalize L2.upd H1 p (.tup [.int 0, .int 0]) = H2 at s2 e2
        refine ⟨_, rfl, _, rfl, y, rfl, line8 (by omega), _, _, rfl, ⟨by omega, by omega, by omega, by omega⟩, ?_⟩
        subst g40
        have hdl : ∀ j, ((TL.tl y).drop i)[j]? = (TL.tl y)[i + j]? := fun j => List.getElem?_drop
        refine for_range (lo := 0 + (i : Int)) (n := ((y.length : Int) - (0 + (i : Int))).toNat) (fun j σ' H' => ∃ (dp : Int) (en : Nat) (x5 x6 x7 : Option V), σ' = [some (.str y), some (.ref D), some (.int (0 + (i : Int))), some (.int dp), some (.int (en : Int)), x5, x6, x7] ∧ H' = H2 ∧ dp = bs (((TL.tl y).drop i).take j) ∧ ((en = 0 ∧ (1 ≤ j → 1 ≤ dp)) ∨ (i < en ∧ en < y.length))) ⟨0, 0, _, _, _, rfl, rfl, rfl, .inl ⟨rfl, fun h => absurd h (by decide)⟩⟩ ?_ ?_
        · rintro j σ' H3 hj ⟨dp, en, x5, x6, x7, rfl, rfl, ed, alt⟩
          have hj : i + j < y.length := by omega
          obtain ⟨c, hcj⟩ : ∃ c, (TL.tl y)[i + j]? = some c := ⟨_, List.getElem?_eq_getElem (by omega)⟩
          refine ⟨_, rfl, _, rfl, y, _, c, rfl, rfl, line8 (by omega), by rw [Int.zero_add, ← Int.natCast_add]; exact atI_nat hcj, ?_⟩
          refine ⟨_, rfl, _, rfl, rfl, .inr ⟨_, rfl, _, _, rfl, rfl, _, rfl, rfl, .inr ⟨_, rfl, _, _, rfl, rfl, ?_⟩⟩⟩
          have hv : dp + (if decide (V.str ⟨#[c]⟩ = V.str (Str.ofString "(")) = true then 1 else 0) - (if decide (V.str ⟨#[c]⟩ = V.str (Str.ofString ")")) = true then 1 else 0) = bs (((TL.tl y).drop i).take (j + 1)) := by
            rw [show decide (V.str ⟨#[c]⟩ = V.str (Str.ofString "(")) = decide (c = 40) from chr_eq c 40, show decide (V.str ⟨#[c]⟩ = V.str (Str.ofString ")")) = decide (c = 41) from chr_eq c 41]
            rw [List.take_add_one, hdl j, hcj]
            show _ = bs (_ ++ [c])
            rw [bs_app, ← ed, bs_one]
            simp only [decide_eq_true_eq]
            omega
          have hstep : dp - 1 ≤ bs (((TL.tl y).drop i).take (j + 1)) := by
            rw [← hv]
            split <;> split <;> omega
          have h0 : j = 0 → bs (((TL.tl y).drop i).take (j + 1)) = 1 := fun e => by
            subst e
            rw [List.take_add_one, hdl 0, show (TL.tl y)[i + 0]? = some 40 from hc]
            rfl
          refine ⟨_, rfl, rfl, _, rfl, ?_⟩
          dsimp only
          rw [int_eq0]
          by_cases z1 : bs (((TL.tl y).drop i).take (j + 1)) = 0
          · rw [decide_eq_true (hv.trans z1)]
            refine iteT ⟨_, rfl, rfl, _, rfl, ?_⟩
            rw [int_eq0]
            by_cases z2 : en = 0
            · rw [decide_eq_true (show (en : Int) = 0 by omega)]
              refine iteT ⟨_, rfl, _, i + j, _, _, _, by rw [Int.zero_add, ← Int.natCast_add]; rfl, rfl, hv, .inr ⟨?_, hj⟩⟩
              have : j ≠ 0 := fun e => by have := h0 e; omega
              omega
            · rw [decide_eq_false (show ¬ (en : Int) = 0 by omega)]
              refine iteF ⟨_, en, _, _, _, rfl, rfl, hv, .inr ?_⟩
              rcases alt with h | h
              · exact absurd h.1 z2
              · exact h
          · rw [decide_eq_false (fun e => z1 (hv.symm.trans e))]
            refine iteF (iteF ⟨_, en, _, _, _, rfl, rfl, hv, ?_⟩)
            rcases alt with ⟨h1, h2⟩ | h
            · refine .inl ⟨h1, fun _ => ?_⟩
              show 1 ≤ _
              rw [hv]
              by_cases z3 : j = 0
              · have := h0 z3; omega
              · have := h2 (by omega); omega
            · exact .inr h
        · rintro σ' H3 ⟨dp, en, x5, x6, x7, rfl, rfl, ed, alt⟩
          obtain ⟨en1, en2⟩ : i < en ∧ en < y.length := by
            rcases alt with ⟨_, h⟩ | h
            · have h := h (by omega)
              rw [List.take_of_length_le (by rw [List.length_drop]; omega)] at ed
              have b1 := bs_app ((TL.tl y).take i) ((TL.tl y).drop i)
              rw [List.take_append_drop, bal.1] at b1
              have b2 := bal.2 i
              omega
            · exact h
          have t0 := tl_pre y i
          have t1 := tl_mid y (i + 1) en (by omega) (by omega)
          have t2 := tl_suf y (en + 1)
          have n0 : (L2.cutS y none (some (i : Int))).length = i := by rw [TL.len_tl, t0, List.length_take]; omega
          have n1 : (L2.cutS y (some ((i + 1 : Nat) : Int)) (some (en : Int))).length = en - (i + 1) := by rw [TL.len_tl, t1, List.length_take, List.length_drop]; omega
          have n2 : (L2.cutS y (some ((en + 1 : Nat) : Int)) none).length = y.length - (en + 1) := by rw [TL.len_tl, t2, List.length_drop]; omega
          refine ⟨_, rfl, _, rfl, _, _, rfl, rfl, _, rfl, _, rfl, _, rfl, y, rfl, line8 (by omega), ?_⟩
          rw [show (0 + (i : Int) + 1) = ((i + 1 : Nat) : Int) by omega, Int.zero_add]
          refine ⟨_, rfl, (.inl ⟨rfl, _, SqL.of e2⟩), _, rfl, _, rfl, _, rfl, y, rfl, line8 (by omega), _, rfl, _, _, rfl, rfl, line8 (by omega), _, rfl, _, rfl, _, _, rfl, rfl, _, rfl, y, rfl, line8 (by omega), ?_⟩
          rw [show ((en : Int) + 1) = ((en + 1 : Nat) : Int) by omega]
          refine ⟨_, _, rfl, rfl, by rw [len_app]; exact line8 (by omega), D, _, _, rfl, rfl, e2, by rw [List.length_map]; exact Nat.lt_of_le_of_lt (show zs.length ≤ 5000 by omega) (by decide), zs ++ [_], _, _, _, _, _, _, rfl, fun b o e => by rw [upd_ne (ne_of_none e hD)]; exact s2 b o e, by rw [List.map_append]; exact upd_same, by rw [List.length_append]; show zs.length + 1 ≤ _; omega, fun z hz => ?_⟩
          rcases List.mem_append.mp hz with h | h
          · exact g1 z h
          · rw [List.mem_singleton.mp h]
            constructor
            · rw [len_app, len_app]
              omega
            · rw [TL.tl_append, TL.tl_append, t0, t1, t2]
              exact less_cnt hc en1 (by rw [← lt]; exact en2)
      · rw [decide_eq_false g40]
        exact iteF ⟨zs, _, _, _, _, _, _, rfl, s1, e1, by omega, g1⟩
    · rintro σ' H1 ⟨zs, x2, x3, x4, x5, x6, x7, rfl, s1, e1, l1, g1⟩
      exact ⟨_, rfl, k D zs H1 s1 hD e1 (by omega) g1⟩
end
end Xk
end
section
set_option Elab.async false
set_option linter.all false
set_option maxRecDepth 100000
set_option maxHeartbeats 4000000
namespace Xk
open PySem PySem.Spec PyProof.Rows L2 Xh LamX NdefX
/-! ### the law's own state -/
/-- the draws stand at d, the tables stand, and what qs tells stands -/
structure Wd (d : Addr) (T : List (Addr × Str)) (qs : List (Addr × HO)) (H : Hp) : Prop where
  D : Draw H d
  T : Tabs T H
  q : ∀ p ∈ qs, p.1 ≠ d ∧ H p.1 = some p.2 ∧ ∀ ps, p.2 ≠ .tbl ps
section
variable {d : Addr} {T : List (Addr × Str)} {qs : List (Addr × HO)} {H H' : Hp}
theorem Draw.ext (D : Draw H d) (x : ExtN H H') : Draw H' d := by
  obtain ⟨c, ns, i, r, g, h1, h2, h3⟩ := D
  exact ⟨c, ns, i, r, g, x _ _ h1 (fun _ z => by cases z), x _ _ h2 (fun _ z => by cases z), h3⟩
theorem Wd.ext (w : Wd d T qs H) (x : ExtN H H') (t : Tabs T H') : Wd d T qs H' := ⟨w.D.ext x, t, fun p hp => ⟨(w.q p hp).1, x _ _ (w.q p hp).2.1 (w.q p hp).2.2, (w.q p hp).2.2⟩⟩
theorem Wd.gr (w : Wd d T qs H) (g : Gr T H H') : Wd d T qs H' := w.ext g.x g.t
theorem Wd.same (w : Wd d T qs H) (s : Same H H') : Wd d T qs H' := ⟨w.D.same s, w.T.ext s, fun p hp => ⟨(w.q p hp).1, s _ _ (w.q p hp).2.1, (w.q p hp).2.2⟩⟩
theorem Tabs.but (t : Tabs T H) (D : Draw H d) (b : But d H H') : Tabs T H' := fun p hp => by
  obtain ⟨ps, h1, h2, h3⟩ := t p hp
  obtain ⟨c, ns, i, r, g, e, _⟩ := D
  refine ⟨ps, b _ _ (fun z => ?_) h1, h2, fun pos cv hc => ?_⟩
  · rw [z, e] at h1
    cases h1
  · obtain ⟨c', e1, e2⟩ := h3 pos cv hc
    refine ⟨c', e1, b _ _ (fun z => ?_) e2⟩
    rw [z, e] at e2
    unfold CodeO at e2
    cases e2
theorem Wd.but (w : Wd d T qs H) (b : But d H H') (D' : Draw H' d) : Wd d T qs H' := ⟨D', Tabs.but w.T w.D b, fun p hp => ⟨(w.q p hp).1, b _ _ (w.q p hp).1 (w.q p hp).2.1, (w.q p hp).2.2⟩⟩
theorem Wd.add (w : Wd d T qs H) {p : Addr} {o : HO} (hp : H p = none) (ho : ∀ ps, o ≠ .tbl ps) : Wd d T ((p, o) :: qs) (L2.upd H p o) := by
  have w' := w.same (same_upd (o := o) hp)
  refine ⟨w'.D, w'.T, fun r hr => ?_⟩
  rcases List.mem_cons.mp hr with rfl | hr
  · exact ⟨w.D.ne hp, upd_same, ho⟩
  · exact w'.q r hr
theorem Wd.sub {rs : List (Addr × HO)} (w : Wd d T qs H) (h : ∀ p ∈ rs, p ∈ qs) : Wd d T rs H := ⟨w.D, w.T, fun p hp => w.q p (h p hp)⟩
theorem Wd.at {p : Addr} {o : HO} (w : Wd d T qs H) (h : (p, o) ∈ qs) : H p = some o := (w.q _ h).2.1
end
theorem same_tup {K : PySem.W.Frag} {H : Hp} {p q : Addr} {xs : List V} (hp : H p = some (.tup xs)) (hq : H q = some (.tup xs)) (hf : xs.all flatV = true) (hl : xs.length ≤ 1000) : SameAt K H 1 (.ref p) (.ref q) :=
  .inr ⟨p, q, xs, xs, rfl, rfl, .inr ⟨SqT.of hp, SqT.of hq⟩, rfl, hl, fun i x y hx hy => by
    rw [hx] at hy
    cases hy
    exact ⟨List.all_eq_true.mp hf _ (List.mem_of_getElem? hx), rfl⟩⟩

end Xk
end
section
set_option Elab.async false
set_option linter.all false
set_option maxRecDepth 100000
set_option maxHeartbeats 4000000
namespace Xk
open PySem PySem.Spec PyProof.Rows L2 Xh LamX NdefX
/-! ### what is told, what is refused -/
/-- e.f of the exception that the suite holds: any own class that lets its fields be read -/
def tXfA (K : PySem.W.Frag) (a : Addr) (cls : Value) (d : Option Addr) (f : Str) (te : TE) : TE := fun σ H Q => te σ H fun x H1 => x = .ref a ∧ ∃ (C dd : Addr) (fs : List (Str × V)) (v : V), cls = .ref C ∧ XfC K C ∧ PySem.W.findIn K (.ref C) f = some none ∧ d = some dd ∧ H1 dd = some (.xd fs) ∧ fs.lookup f = some v ∧ Q v H1
theorem pe_xfA {X : Cx} {a : Addr} {oe : Obj} {cls : Value} {d : Option Addr} {pn : List (Addr × Obj)} {e : Expr} {te : TE} {pos : Pos} {n : Str}
    (hz : Zc cls d oe) (hf : ∃ vs, oe.data = .fields vs) (he : PE (X.suite a ((a, oe) :: pn)) e te) (hb : attributeBase e n X.env (eval e X.env) = eval e X.env := by rfl) :
    PE (X.suite a ((a, oe) :: pn)) (.Attribute e n pos) (tXfA X.K a cls d n te) := by
  refine ⟨fun pins s σ H Q I h => ?_⟩
  refine attr_of hb (thn (he.run pins s σ H _ I h) fun u s1 hh => ?_)
  obtain ⟨x, H1, I1, rx, ex, C, dd, fs, v, ec, T, hno, ed, ea, l, q⟩ := hh
  subst ex
  obtain rfl : u = Value.ref a := rx
  subst ec
  subst ed
  obtain ⟨ha, _⟩ := I1.pin (a, oe) (List.mem_append_left _ List.mem_cons_self)
  obtain ⟨vs, hd⟩ := hf
  have hx : ObjOk X.prog X.w H1 s1.heap dd (.xd fs) := I1.hok dd _ ea
  obtain ⟨mA, hns, hr⟩ := hx
  obtain ⟨od, ho, hl⟩ := lookIn_ns hns
  obtain ⟨u, hu, ru⟩ := RelO.some_of (v := v) (o := mA n) (by rw [← l]; exact hr n)
  have J : PySem.W.InstAt s1.heap a oe C (some od) := ⟨ha, hz.1, by unfold PySem.W.notCls; rw [hd] <;> rfl, by rw [hz.2]; exact ho⟩
  exact HandSPX.exc_get I1.kIn J T.ga T.gg T.exC (PySem.W.findObj_own T.hdC hno rfl (by rw [hl, hu])) (handed_of ru) ⟨v, H1, I1.tok _, ru, q⟩
/-- the clauses' classes -/
structure Cls8 (mg : Str → Option Value) (c : Fin 14 → Addr) : Prop where
  c0 : mg "NotWhole" = some (.ref (c 0))
  c1 : mg "TooTall" = some (.ref (c 1))
  c2 : mg "BadTable" = some (.ref (c 2))
  c3 : mg "BadText" = some (.ref (c 3))
  c4 : mg "BadPage" = some (.ref (c 4))
  c5 : mg "Stopped" = some (.ref (c 5))
  c6 : mg "Used" = some (.ref (c 6))
  c7 : mg "Held" = some (.ref (c 7))
  c8 : mg "NoGuest" = some (.ref (c 8))
  c9 : mg "NoName" = some (.ref (c 9))
  c10 : mg "RungError" = some (.ref (c 10))
  c11 : mg "RungMissing" = some (.ref (c 11))
/-- what is wanted of an exception: one without more is told by its word, one with a field by its word and that -/
def wfs : List (Nat × Str) := [(0, "part"), (1, "tall"), (2, "at"), (3, "row"), (5, "by"), (6, "name")]
def wWhy (K : PySem.W.Frag) (c : Fin 14 → Addr) (Q : VK) : XK := fun cls d H' => ∃ (C dd : Addr) (fs : List (Str × V)) (nm : Str), cls = .ref C ∧ d = some dd ∧ H' dd = some (.xd fs) ∧ PySem.W.findIn K (.ref C) "word" = some none ∧ fs.lookup ("word" : Str) = some (V.str nm) ∧
  ((Catch K c C 7 ∧ ∀ p, H' p = none → Q (.ref p) (L2.upd H' p (.tup [.str nm, .non]))) ∨ ∃ (j : Nat) (f : Str) (y : V), (j, f) ∈ wfs ∧ Catch K c C j ∧ PySem.W.findIn K (.ref C) f = some none ∧ fs.lookup f = some y ∧ ∀ p, H' p = none → Q (.ref p) (L2.upd H' p (.tup [.str nm, y])))
def TTwhy (K : PySem.W.Frag) (c : Fin 14 → Addr) : (XK → Hp → VK → Prop) → Hp → VK → Prop := fun tl H Q => tl (wWhy K c Q) H fun v H1 => [V.str "told", v].length ≤ sizeLine ∧ ∀ p, H1 p = none → Q (.ref p) (L2.upd H1 p (.tup [.str "told", v]))
theorem takes_len {X : Cx} {W : WX} (t : Takes X W) : Takes X fun cls d σ H => σ.length = X.N.length → W cls d σ H := fun u s' x => by
  obtain ⟨a, B, sI, pins, σ, H, cls, d, e, I, nb, up, sky, na, os, ag, w⟩ := x
  exact t u s' ⟨a, B, sI, pins, σ, H, cls, d, e, I, nb, up, sky, na, os, ag, w I.len⟩
theorem wskip {K : PySem.W.Frag} {Wout : WX} {D : Ends} {cs : List Value} {n : Option Nat} {ts : Addr → Value → Option Addr → TS} {r : List Cl} {cls : Value} {d : Option Addr} {σ : L2.St} {H : Hp} (h : PySem.W.exmAny K cls cs = some false) (k : wClauses K Wout D r cls d σ H) : wClauses K Wout D ((cs, n, ts) :: r) cls d σ H :=
  ⟨false, h, fun z => absurd z (by decide), fun _ => k⟩
theorem wtake {K : PySem.W.Frag} {Wout : WX} {D : Ends} {cs : List Value} {n : Option Nat} {ts : Addr → Value → Option Addr → TS} {r : List Cl} {cls : Value} {d : Option Addr} {σ : L2.St} {H : Hp} (h : PySem.W.exmAny K cls cs = some true) (k : ∀ a, H a = none → ts a cls d (outOf D n) (intoS σ a n) H) : wClauses K Wout D ((cs, n, ts) :: r) cls d σ H :=
  ⟨true, h, fun _ => k, fun z => absurd z (by decide)⟩
theorem set_at {σ : L2.St} {i : Nat} {x : Option V} (h : i < σ.length) : (σ.set i x)[i]? = some x := by
  rw [List.getElem?_set_self h]
section
variable {P : Program} {w : World} {K : PySem.W.Frag} {mg : Str → Option Value} {base : Heap}
theorem sc_law_why : FnScope (["_law_ask", "e"] : List Str) ["_law_ask"] (defScope s_law_why) := ⟨rfl, rfl, rfl, by decide +kernel, rfl, by decide +kernel, by decide +kernel⟩
theorem ok_why {g : Addr} {fd : FuncData} {kl : Nat} {c : Fin 14 → Addr} (F : FunD K "_law_why" "_law_why" (defArgs s_law_why) (defBody s_law_why) (defScope s_law_why) [] [] g fd) (m : mg "_law_why" = some (.ref g)) (M : Cls8 mg c) : Gives P w K mg base (kl + 2) kl "_law_why" g (TTwhy K c) := by
  refine gives_of (Ng := ["_law_ask", "e"]) (a := "_law_ask") F m sc_law_why (fun _ _ _ _ _ _ us hl => match us, hl with | [_], _ => rfl) fun q cdg A outer f c' s H Q tl hr act hfo hfs hc hT => ?_
  refine ⟨_, pss_one (ps_try_cls (Wout := fun _ _ _ _ => False)
      (tb := fun W D σ H => ∃ Ech : XK, (∀ cls d σ' H', Ech cls d H' → σ'.length = 2 → W cls d σ' H') ∧ σ[0]? = some (some (.ref f)) ∧ H c' = some (CodeO c' q) ∧ tl Ech H fun v H1 => [V.str "told", v].length ≤ sizeLine ∧ ∀ p, H1 p = none → D.rt (.ref p) (L2.upd H1 p (.tup [.str "told", v])))
      rfl rfl sc_law_why.nd L2.takes0 (fun W pn xe tk _ => ?body)
      (.as (testName ⟨rfl, by decide, .inl M.c0⟩) (i := 1) rfl rfl (fun a oe cls d pn hz hf => pss_one (ps_ret (pe_tup (pa_cons (pe_xfA hz hf (pv 1)) (pa_cons (pe_xfA hz hf (pv 1)) pa_nil)))))
      (.as (testName ⟨rfl, by decide, .inl M.c1⟩) (i := 1) rfl rfl (fun a oe cls d pn hz hf => pss_one (ps_ret (pe_tup (pa_cons (pe_xfA hz hf (pv 1)) (pa_cons (pe_xfA hz hf (pv 1)) pa_nil)))))
      (.as (testTup2 rfl M.c2 rfl M.c3) (i := 1) rfl rfl (fun a oe cls d pn hz hf => pss_one (ps_ret (pe_tup (pa_cons (pe_xfA hz hf (pv 1)) (pa_cons (pe_xfA hz hf (pv 1)) pa_nil)))))
      (.as (testName ⟨rfl, by decide, .inl M.c4⟩) (i := 1) rfl rfl (fun a oe cls d pn hz hf => pss_one (ps_ret (pe_tup (pa_cons (pe_xfA hz hf (pv 1)) (pa_cons (pe_xfA hz hf (pv 1)) pa_nil)))))
      (.as (testName ⟨rfl, by decide, .inl M.c5⟩) (i := 1) rfl rfl (fun a oe cls d pn hz hf => pss_one (ps_ret (pe_tup (pa_cons (pe_xfA hz hf (pv 1)) (pa_cons (pe_tup (pa_cons (pe_xfA hz hf (pv 1)) (pa_cons (pe_xfA hz hf (pv 1)) pa_nil))) pa_nil)))))
      (.as (testTup2 rfl M.c6 rfl M.c7) (i := 1) rfl rfl (fun a oe cls d pn hz hf => pss_one (ps_ret (pe_tup (pa_cons (pe_xfA hz hf (pv 1)) (pa_cons (pe_xfA hz hf (pv 1)) pa_nil)))))
      (.as (testTup2 rfl M.c8 rfl M.c9) (i := 1) rfl rfl (fun a oe cls d pn hz hf => pss_one (ps_ret (pe_tup (pa_cons (pe_xfA hz hf (pv 1)) (pa_cons (pe_xfA hz hf (pv 1)) pa_nil)))))
      (.as (testTup2 rfl M.c10 rfl M.c11) (i := 1) rfl rfl (fun a oe cls d pn hz hf => pss_one (ps_ret (pe_tup (pa_cons (pe_xfA hz hf (pv 1)) (pa_cons pe_non pa_nil)))))
      .nil))))))))), ?_⟩
  case body =>
    refine ⟨fun pins s' σ H' D I h' => ?_⟩
    obtain ⟨Ech, hW, h1, h2, h3⟩ := h'
    have hp := fun p1 p2 => act (frs outer) CX0 ["_law_ask", "e"] "_law_why" (defScope s_law_why) g cdg A outer s H E0 Un.refl hfo (fun _ hb => hb) hr 0 "_law_ask" _ pn xe Ech p1 p2 rfl (Or.inl rfl) (by decide) (by decide) (takes_len tk) hW
    exact (pss_one (ps_ret (pe_tup (pa_cons pe_str (pa_cons (hp _ _) pa_nil))))).run pins s' σ H' D I ⟨h1, h2, h3⟩
  · refine ⟨wWhy K c Q, fun cls d σ' H' h hlen => ?_, rfl, hc, hT⟩
    obtain ⟨C, dd, fs, nm, rfl, rfl, hx, hw, hl, alt⟩ := h
    rcases alt with ⟨⟨T, hf, ht⟩, k⟩ | ⟨j, f, y, hj, ⟨T, hf, ht⟩, hfw, hly, k⟩
    · refine wskip (hf 0 (by decide) _ rfl) (wskip (hf 1 (by decide) _ rfl) (wskip (hf 2 (by decide) _ rfl) (wskip (hf 3 (by decide) _ rfl) (wskip (hf 4 (by decide) _ rfl) (wskip (hf 5 (by decide) _ rfl) (wskip (hf 6 (by decide) _ rfl) (wtake (ht _ rfl) fun a ha => ?_)))))))
      exact ⟨.ref a, set_at (by omega), rfl, C, dd, fs, .str nm, rfl, T, hw, rfl, hx, hl, (by show 2 ≤ sizeLine; decide), fun p hp => k p hp⟩
    · have go : ∀ a : Addr, σ'.length = 2 → ((intoS σ' a (some 1))[1]? = some (some (.ref a))) := fun a h => set_at (by omega)
      unfold wfs at hj
      simp only [List.mem_cons, Prod.mk.injEq, List.not_mem_nil, or_false] at hj
      rcases hj with ⟨rfl, rfl⟩ | ⟨rfl, rfl⟩ | ⟨rfl, rfl⟩ | ⟨rfl, rfl⟩ | ⟨rfl, rfl⟩ | ⟨rfl, rfl⟩
      · refine wtake (ht _ rfl) fun a ha => ?_
        exact ⟨.ref a, set_at (by omega), rfl, C, dd, fs, .str nm, rfl, T, hw, rfl, hx, hl, .ref a, set_at (by omega), rfl, C, dd, fs, y, rfl, T, hfw, rfl, hx, hly, (by show 2 ≤ sizeLine; decide), fun p hp => k p hp⟩
      · refine wskip (hf 0 (by decide) _ rfl) (wtake (ht _ rfl) fun a ha => ?_)
        exact ⟨.ref a, set_at (by omega), rfl, C, dd, fs, .str nm, rfl, T, hw, rfl, hx, hl, .ref a, set_at (by omega), rfl, C, dd, fs, y, rfl, T, hfw, rfl, hx, hly, (by show 2 ≤ sizeLine; decide), fun p hp => k p hp⟩
      · refine wskip (hf 0 (by decide) _ rfl) (wskip (hf 1 (by decide) _ rfl) (wtake (ht _ rfl) fun a ha => ?_))
        exact ⟨.ref a, set_at (by omega), rfl, C, dd, fs, .str nm, rfl, T, hw, rfl, hx, hl, .ref a, set_at (by omega), rfl, C, dd, fs, y, rfl, T, hfw, rfl, hx, hly, (by show 2 ≤ sizeLine; decide), fun p hp => k p hp⟩
      · refine wskip (hf 0 (by decide) _ rfl) (wskip (hf 1 (by decide) _ rfl) (wskip (hf 2 (by decide) _ rfl) (wtake (ht _ rfl) fun a ha => ?_)))
        exact ⟨.ref a, set_at (by omega), rfl, C, dd, fs, .str nm, rfl, T, hw, rfl, hx, hl, .ref a, set_at (by omega), rfl, C, dd, fs, y, rfl, T, hfw, rfl, hx, hly, (by show 2 ≤ sizeLine; decide), fun p hp => k p hp⟩
      · refine wskip (hf 0 (by decide) _ rfl) (wskip (hf 1 (by decide) _ rfl) (wskip (hf 2 (by decide) _ rfl) (wskip (hf 3 (by decide) _ rfl) (wskip (hf 4 (by decide) _ rfl) (wtake (ht _ rfl) fun a ha => ?_)))))
        exact ⟨.ref a, set_at (by omega), rfl, C, dd, fs, .str nm, rfl, T, hw, rfl, hx, hl, .ref a, set_at (by omega), rfl, C, dd, fs, y, rfl, T, hfw, rfl, hx, hly, (by show 2 ≤ sizeLine; decide), fun p hp => k p hp⟩
      · refine wskip (hf 0 (by decide) _ rfl) (wskip (hf 1 (by decide) _ rfl) (wskip (hf 2 (by decide) _ rfl) (wskip (hf 3 (by decide) _ rfl) (wskip (hf 4 (by decide) _ rfl) (wskip (hf 5 (by decide) _ rfl) (wtake (ht _ rfl) fun a ha => ?_))))))
        exact ⟨.ref a, set_at (by omega), rfl, C, dd, fs, .str nm, rfl, T, hw, rfl, hx, hl, .ref a, set_at (by omega), rfl, C, dd, fs, y, rfl, T, hfw, rfl, hx, hly, (by show 2 ≤ sizeLine; decide), fun p hp => k p hp⟩
/-- the word alone -/
def TTword (K : PySem.W.Frag) (c : Fin 14 → Addr) : (XK → Hp → VK → Prop) → Hp → VK → Prop := fun tl H Q => TTwhy K c tl H fun x H1 => rIxT K x (.int 0) H1 Q
end
end Xk
end
section
set_option Elab.async false
set_option linter.all false
set_option maxRecDepth 100000
set_option maxHeartbeats 4000000
namespace Xk
open PySem PySem.Spec PyProof.Rows L2 Xh LamX NdefX
open NdefX
theorem Wd.put {d : Addr} {T : List (Addr × Str)} {qs : List (Addr × HO)} {H : Hp} (w : Wd d T qs H) {p : Addr} {o : HO} (e : H p = some o) (hp : p ≠ d) (ho : ∀ ps, o ≠ .tbl ps) : Wd d T ((p, o) :: qs) H := by
  refine ⟨w.D, w.T, fun r hr => ?_⟩
  rcases List.mem_cons.mp hr with rfl | hr
  · exact ⟨hp, e, ho⟩
  · exact w.q r hr
theorem Wd.putT {d : Addr} {T : List (Addr × Str)} {qs : List (Addr × HO)} {H : Hp} (w : Wd d T qs H) {p : Addr} {xs : List V} (e : H p = some (.tup xs)) : Wd d T ((p, .tup xs) :: qs) H := by
  refine w.put e (fun z => ?_) (fun _ z => by cases z)
  obtain ⟨c, ns, i, r, g, e2, _⟩ := w.D
  rw [z, e2] at e
  cases e
theorem Wd.a0 {d p : Addr} {o : HO} {T : List (Addr × Str)} {qs : List (Addr × HO)} {H : Hp} (w : Wd d T ((p, o) :: qs) H) : H p = some o := w.at List.mem_cons_self
theorem Wd.tl {d : Addr} {q : Addr × HO} {T : List (Addr × Str)} {qs : List (Addr × HO)} {H : Hp} (w : Wd d T (q :: qs) H) : Wd d T qs H := w.sub fun _ h => List.mem_cons_of_mem _ h
theorem Wd.a1 {d p : Addr} {o : HO} {q : Addr × HO} {T : List (Addr × Str)} {qs : List (Addr × HO)} {H : Hp} (w : Wd d T (q :: (p, o) :: qs) H) : H p = some o := w.tl.a0
theorem Wd.a2 {d p : Addr} {o : HO} {q q2 : Addr × HO} {T : List (Addr × Str)} {qs : List (Addr × HO)} {H : Hp} (w : Wd d T (q :: q2 :: (p, o) :: qs) H) : H p = some o := w.tl.tl.a0
theorem Wd.a3 {d p : Addr} {o : HO} {q q2 q3 : Addr × HO} {T : List (Addr × Str)} {qs : List (Addr × HO)} {H : Hp} (w : Wd d T (q :: q2 :: q3 :: (p, o) :: qs) H) : H p = some o := w.tl.tl.tl.a0
theorem Wd.a4 {d p : Addr} {o : HO} {q q2 q3 q4 : Addr × HO} {T : List (Addr × Str)} {qs : List (Addr × HO)} {H : Hp} (w : Wd d T (q :: q2 :: q3 :: q4 :: (p, o) :: qs) H) : H p = some o := w.tl.tl.tl.tl.a0
theorem Wd.a5 {d p : Addr} {o : HO} {q q2 q3 q4 q5 : Addr × HO} {T : List (Addr × Str)} {qs : List (Addr × HO)} {H : Hp} (w : Wd d T (q :: q2 :: q3 :: q4 :: q5 :: (p, o) :: qs) H) : H p = some o := w.tl.tl.tl.tl.tl.a0
theorem sqD {K : PySem.W.Frag} {H : Hp} {a : Addr} {xs : List V} (e : H a = some (.tup xs)) : SqT K H a xs := .inl (.inl e)
/-! ### the law of formulas written -/
open Xp (Tr Op Wt Tk Aw)
theorem exf_why {K : PySem.W.Frag} {c : Fin 14 → Addr} {C : Addr} {nm f : Str} {y : V} {H : Hp} {Q : VK} {j : Nat} (hj : (j, f) ∈ wfs) (hf : (("word" : Str) == f) = false) (hc : Catch K c C j) (hw : PySem.W.findIn K (.ref C) "word" = some none) (hwf : PySem.W.findIn K (.ref C) f = some none) (k : ∀ (H' : Hp) (p : Addr), Same H H' → H' p = none → Q (.ref p) (L2.upd H' p (.tup [.str nm, y]))) : ExF H (wWhy K c Q) C nm f y :=
  fun d H' s hx _ => ⟨C, d, _, nm, rfl, rfl, hx, hw, by simp [List.lookup, hf], .inr ⟨j, f, y, hj, hc, hwf, by simp [List.lookup], fun p hp => k H' p s hp⟩⟩
def lawQ : Str := (envOfC "law" ⟨.function, [], false, false, []⟩ 0 0 .none).qual ++ "<lambda>"
abbrev TL1 (PL : Addr) : List (Addr × Str) := [(PL, lawQ)]
def tA : Tr := .name [97]
def tB : Tr := .name [98]
def trs4 : List Tr := [.power (.bin .plus tA tB) (-2), .turned (.power tA 0), .bin .minus tA (.bin .minus tB tA), .bin .times (.bin .over tA tB) tA]
def due4 : List Str := ["(a + b)^-2", "a^0'", "a - (b - a)", "a / b * a"]
theorem due_ok : ∀ (j : Nat) (t : Tr) (y : Str), trs4[j]? = some t → due4[j]? = some y → lsT t = TL.tl y ∧ OkT 4 t
  | 0, t, y, h, g => by cases h; cases g; exact ⟨by decide +kernel, by decide, rfl, rfl⟩
  | 1, t, y, h, g => by cases h; cases g; exact ⟨by decide +kernel, by decide, rfl⟩
  | 2, t, y, h, g => by cases h; cases g; exact ⟨by decide +kernel, rfl, rfl, rfl⟩
  | 3, t, y, h, g => by cases h; cases g; exact ⟨by decide +kernel, ⟨rfl, rfl⟩, rfl⟩
  | n + 4, t, y, h, g => by cases h
def spLaw (K : PySem.W.Frag) (PL : Addr) : Sp := fun vs H Q _ => ∃ (a : Addr) (ns : List Int), vs = [.ref a] ∧ SqL K H a (ns.map V.int) ∧ Tabs (TL1 PL) H ∧ ∀ H', Q (.bl true) H'
theorem Tabs.lst {T : List (Addr × Str)} {H : Hp} {D : Addr} {xs ys : List V} (t : Tabs T H) (e : H D = some (.lst xs)) : Tabs T (L2.upd H D (.lst ys)) := fun p hp => by
  obtain ⟨ps, h1, h2, h3⟩ := t p hp
  refine ⟨ps, ?_, h2, fun pos cv hc => ?_⟩
  · rw [upd_ne (fun z => by rw [z, e] at h1; cases h1)]
    exact h1
  · obtain ⟨c', e1, e2⟩ := h3 pos cv hc
    refine ⟨c', e1, ?_⟩
    rw [upd_ne (fun z => by
      rw [z, e] at e2
      unfold CodeO at e2
      cases e2)]
    exact e2
theorem tk_lst {H : Hp} {D : Addr} {xs ys : List V} (e : H D = some (.lst xs)) : TupK H (L2.upd H D (.lst ys)) := fun b zs e2 => by
  rw [upd_ne (fun z => by rw [z, e] at e2; cases e2)]
  exact e2
theorem any_no : ∀ n : Nat, (List.replicate n false).any id = false
  | 0 => rfl
  | n + 1 => by
    rw [List.replicate_succ, List.any_cons, any_no n]
    rfl
theorem sh_bad (k : Nat) : SeqAt.shaped (.tuple [.str "BadText", .int (k : Int)]) = true := by
  simp [SeqAt.shaped, PyData.canLay0, PyData.depth, PySem.W.ke_canLayAll0, PyData.canLayAll0, PyData.depthAll, show PyData.strOk (Str.ofString "BadText") = true by decide +kernel]
theorem told_ne {t u : Tr} (h : u ≠ t) : PyData.eqv (.tuple [.str "told", trD u]) (.tuple [.str "told", trD t]) = false := by
  rw [ev_tup, ev_cons, show PyData.eqv (trD u) (trD t) = false from Bool.eq_false_iff.mpr fun e => h (tr_inj _ _ e), Bool.false_and, Bool.and_false]
theorem bad_ne (k : Int) (t : Tr) : PyData.eqv (.tuple [.str "BadText", .int k]) (.tuple [.str "told", trD t]) = false := by
  rw [ev_tup, show (("BadText" : Str) == "told") = false by decide +kernel, Bool.false_and]
theorem flat_str {K : PySem.W.Frag} {H : Hp} {a b : Str} (h : a = b) (n : Nat) : SameAt K H n (.str a) (.str b) := by
  rw [h]
  exact same_flat rfl n
section
variable {P : Program} {w : World} {K : PySem.W.Frag} {mg : Str → Option Value} {base : Heap}
theorem sc_law : FnScope (["_law_script", "_law_draw", "_law_turn", "_law_names", "_law_tree_here", "_law_text_here", "_law_a", "_law_b", "_law_some", "_law_due", "_law_k", "_law_bare"] : List Str) ["_law_script"] (defScope s_law) := ⟨rfl, rfl, rfl, by decide +kernel, rfl, by decide +kernel, by decide +kernel⟩
theorem ok_law {CT : Addr} {f cL PL gwhy : Addr} {c : Fin 14 → Addr} {fd : FuncData} (F : FunD K "law" "law" (defArgs s_law) (defBody s_law) (defScope s_law) [] [] f fd) (hcd : fd.code = .ref cL) (TB : TabB base mg cL PL) (hmT : (PL, lawQ) ∈ TL1 PL) (hu : ∀ p ∈ TL1 PL, p.1 = PL → p.2 = lawQ) (T : Fre mg) (hC : Catch K c CT 2) (hw : PySem.W.findIn K (.ref CT) "word" = some none) (hwf : PySem.W.findIn K (.ref CT) "at" = some none)
    (o_law_begin : Own P w K mg base CX0 1 "_law_begin" ["_law_script"] [] (spBegin K)) (o_law_take : Own P w K mg base CX0 1 "_law_take" ["_law_draw", "_law_sides"] [] spTake) (o_law_fresh : Own P w K mg base CX0 3 "_law_fresh" ["_law_draw", "_law_taken"] [] (spFresh K)) (o_law_tree : Own P w K mg base CX0 8 "_law_tree" ["_law_draw", "_law_names", "_law_deep"] [] (spTree K 5)) (o_law_text : Own P w K mg base CX0 13 "_law_text" ["_law_tree_here"] [] (spTx 5)) (o_write : Own P w K mg base CX0 13 "write" ["tree"] [] (spWr 5)) (o_law_without : Own P w K mg base CX0 1 "_law_without" ["_law_text_here"] [] spWo) (o_law_same : Own P w K mg base CX0 6 "_law_same" ["_law_found", "_law_due"] [] (spS K 6))
    (G_law_why : Gives P w K mg base 9 7 "_law_why" gwhy (TTwhy K c)) (o_read : Own P w K mg base (L2.CX P w) 6 "read" ["text"] [] (spRead CT)) : FnOk P w K mg base CX0 14 f fd ["_law_script"] (spLaw K PL) := by
  refine FunD_okC F hcd sc_law (fun vs H Q E h => ?_) (fun A outer s H vs Q E hr h => ?_)
  · obtain ⟨a, ns, rfl, _⟩ := h
    rfl
  · obtain ⟨a0, ns, rfl, hS, hT, k⟩ := h
    refine ⟨_, PSs.nox (pss_cons (ps_set (i := 1) sc_law.nd rfl (Or.inr rfl) (pe_own o_law_begin (hr.mono (by decide)) rfl pass0 (pa_cons (pv 0) pa_nil)))
      (pss_cons (ps_for PassesOwn.never rfl (pi_range1 (by rfl) T.f_range (pa_cons pe_int pa_nil)) (pg_name (i := 2) sc_law.nd rfl (Or.inl rfl)) (pss_cons (ps_setLc (i := 3) (own := [("_law_k", 10)]) rfl sc_law.nd rfl rfl (sw_true rfl rfl rfl (by decide +kernel)) (pi_range1 (by rfl) T.f_range (pa_cons pe_int pa_nil)) (blkOk_by (own := [("_law_k", 10)]) (N := ["_law_script", "_law_draw", "_law_turn", "_law_names", "_law_tree_here", "_law_text_here", "_law_a", "_law_b", "_law_some", "_law_due", "_law_k", "_law_bare"]) (sc := defScope s_law) (by decide +kernel)) (fun _ _ _ _ _ => pg_name (i := 10) sc_law.nd rfl (Or.inl rfl) (Or.inr rfl)) (fun _ _ _ _ _ => pts_nil) (fun _ _ _ _ _ => (pe_own o_law_fresh (hr.mono (by decide)) rfl pass0 (pa_cons (pv 1) (pa_cons (pe_lst pa_nil) pa_nil)))))
      (pss_cons (ps_set (i := 4) sc_law.nd rfl (Or.inr rfl) (pe_own o_law_tree (hr.mono (by decide)) rfl pass0 (pa_cons (pv 1) (pa_cons (pv 3) (pa_cons (pe_own o_law_take (hr.mono (by decide)) rfl pass0 (pa_cons (pv 1) (pa_cons pe_int pa_nil))) pa_nil)))))
      (pss_cons (ps_set (i := 5) sc_law.nd rfl (Or.inl rfl) (pe_own o_write (hr.mono (by decide)) rfl pass0 (pa_cons (pv 4) pa_nil)))
      (pss_cons (ps_if (pt_not (pt_val (pe_own o_law_same (hr.mono (by decide)) rfl pass0 (pa_cons (pv 5) (pa_cons (pe_own o_law_text (hr.mono (by decide)) rfl pass0 (pa_cons (pv 4) pa_nil)) pa_nil))))) (pss_one (ps_ret pe_bl)) pss_nil)
      (pss_one (ps_if (pt_cmpR op_lt (pe_callB call_len_str (by rfl) T.f_len PySem.boot_len (pa_cons (pv 5) pa_nil)) pe_int (nomark _)) (pss_cons (ps_if (pt_not (pt_val (pe_own o_law_same (hr.mono (by decide)) rfl pass0 (pa_cons (pe_own o_read (hr.mono (by decide)) rfl passL (pa_cons (pv 5) pa_nil)) (pa_cons (pv 4) pa_nil))))) (pss_one (ps_ret pe_bl)) pss_nil)
      (pss_cons (ps_if (pt_cmpR op_ne (pe_own o_write (hr.mono (by decide)) rfl pass0 (pa_cons (pe_own o_read (hr.mono (by decide)) rfl passL (pa_cons (pe_op op_add_str (pe_op op_add_str pe_str (pv 5)) pe_str) pa_nil)) pa_nil)) (pv 5) (nomark _)) (pss_one (ps_ret pe_bl)) pss_nil)
      (pss_one (ps_if (pt_val (pe_callB (cr_any rfl) (by rfl) T.f_any (by decide +kernel) (pa_cons (pe_lc (own := [("_law_bare", 11)]) (te := tOp (rEqD K) (tLam (TL1 PL) (TTwhy K c) fun E => tCall (spRead CT) [] E (tCons (tVar 11) tNil)) (tTup (tCons (tC (V.str "told")) (tCons (tVar 4) tNil)))) rfl sc_law.nd (pi_list (pe_own o_law_without (hr.mono (by decide)) rfl pass0 (pa_cons (pv 5) pa_nil))) (blkOk_by (own := [("_law_bare", 11)]) (N := ["_law_script", "_law_draw", "_law_turn", "_law_names", "_law_tree_here", "_law_text_here", "_law_a", "_law_b", "_law_some", "_law_due", "_law_k", "_law_bare"]) (sc := defScope s_law) (by decide +kernel)) (fun _ _ _ _ _ => pg_name (i := 11) sc_law.nd rfl (Or.inr rfl) (Or.inl rfl)) (fun _ _ _ _ _ => pts_nil) (fun _ _ _ _ _ => (pe_cmpR (op_eqD hr.units) (pe_lam (T := TL1 PL) (kl := 7) G_law_why rfl TB rfl hmT hu (hr.mono (by decide)) (lamS_by (by rfl)) rfl (fun _ _ _ _ _ => rfl) (fun A outer s H E f c' hr2 => (pe_own o_read (hr2.mono (by decide)) rfl (passes_call (takes_of rfl rfl rfl rfl) (fun _ _ _ _ h => h)) (pa_cons (pv 11) pa_nil)))) (pe_tup (pa_cons pe_str (pa_cons (pv 4) pa_nil))) (nomark _)))) pa_nil))) (pss_one (ps_ret pe_bl)) pss_nil)))) pss_nil)))))))
      (pss_cons (ps_asg (pe_tup (pa_cons (pe_tup (pa_cons pe_str (pa_cons pe_str pa_nil))) (pa_cons (pe_tup (pa_cons pe_str (pa_cons pe_str pa_nil))) pa_nil))) (pg_tup rfl (pgs_cons (pg_name (i := 6) sc_law.nd rfl (Or.inl rfl)) (pgs_cons (pg_name (i := 7) sc_law.nd rfl (Or.inl rfl)) pgs_nil))))
      (pss_cons (ps_set (i := 8) sc_law.nd rfl (Or.inl rfl) (pe_lst (pa_cons (pe_tup (pa_cons pe_str (pa_cons (pe_tup (pa_cons pe_str (pa_cons (pv 6) (pa_cons (pv 7) pa_nil)))) (pa_cons (pe_un un_neg pe_int) pa_nil)))) (pa_cons (pe_tup (pa_cons pe_str (pa_cons (pe_tup (pa_cons pe_str (pa_cons (pv 6) (pa_cons pe_int pa_nil)))) pa_nil))) pa_nil))))
      (pss_cons (ps_set (i := 8) sc_law.nd rfl (Or.inl rfl) (pe_op op_cat (pv 8) (pe_lst (pa_cons (pe_tup (pa_cons pe_str (pa_cons (pv 6) (pa_cons (pe_tup (pa_cons pe_str (pa_cons (pv 7) (pa_cons (pv 6) pa_nil)))) pa_nil)))) (pa_cons (pe_tup (pa_cons pe_str (pa_cons (pe_tup (pa_cons pe_str (pa_cons (pv 6) (pa_cons (pv 7) pa_nil)))) (pa_cons (pv 6) pa_nil)))) pa_nil)))))
      (pss_cons (ps_set (i := 9) sc_law.nd rfl (Or.inl rfl) (pe_lst (pa_cons pe_str (pa_cons pe_str (pa_cons pe_str (pa_cons pe_str pa_nil))))))
      (pss_one (ps_ret (pe_cmpR (op_eqD hr.units) (pe_lc (own := [("_law_tree_here", 4)]) rfl sc_law.nd (pi_list (pv 8)) (blkOk_by (own := [("_law_tree_here", 4)]) (N := ["_law_script", "_law_draw", "_law_turn", "_law_names", "_law_tree_here", "_law_text_here", "_law_a", "_law_b", "_law_some", "_law_due", "_law_k", "_law_bare"]) (sc := defScope s_law) (by decide +kernel)) (fun _ _ _ _ _ => pg_name (i := 4) sc_law.nd rfl (Or.inl rfl) (Or.inr rfl)) (fun _ _ _ _ _ => pts_nil) (fun _ _ _ _ _ => (pe_own o_write (hr.mono (by decide)) rfl pass0 (pa_cons (pv 4) pa_nil)))) (pv 9) (nomark _)))))))))) , ?_⟩
    refine ⟨_, rfl, a0, ns, rfl, hS, fun d H1 s1 nd D1 => ?_⟩
    have W1 : Wd d (TL1 PL) [] H1 := ⟨D1, hT.ext s1, fun p hp => nomatch hp⟩
    refine ⟨6, rfl, by decide, by decide, ?_⟩
    refine for_range (lo := 0) (n := 6) (fun i σ' H' => ∃ x2 x3 x4 x5 x10 x11, σ' = [some (.ref a0), some (.ref d), x2, x3, x4, x5, none, none, none, none, x10, x11] ∧ Wd d (TL1 PL) [] H') ⟨none, none, none, none, none, none, rfl, W1⟩ ?_ ?_
    · rintro i σ' H2 hi ⟨x2, x3, x4, x5, x10, x11, rfl, W2⟩
      have D2 := W2.D
      refine ⟨3, rfl, by decide, by decide, fun FL hFL => ?_⟩
      have hFd : FL ≠ d := D2.ne hFL
      refine lc_it (walk_range (lo := 0) (n := 3)) (fun i H' => ∃ ys : List Str, H' FL = some (.lst (ys.map V.str)) ∧ ys.length = i ∧ (∀ y ∈ ys, nameB (TL.tl y) = true) ∧ Draw H' d ∧ But d H2 H') ⟨[], upd_same, rfl, (fun y h => by cases h), D2.same (same_upd hFL), But.updN hFL⟩ (fun _ _ _ _ => trivial) ?_ ?_
      · rintro j x H3 H4 hj ⟨ys, e3, ly, hy, D3, B3⟩ ⟨rfl, hx⟩
        refine ⟨rfl, _, rfl, (by show 0 ≤ sizeLine; decide), fun e he => ?_⟩
        refine ⟨d, e, rfl, D3.same (same_upd he), D3.ne he, SqL.of upd_same, fun y H5 hn D5 B5 => ?_⟩
        have B35 := (But.same (d := d) (same_upd (o := .lst []) he)).trans B5
        have e5 := B35 _ _ hFd e3
        have B25 := B3.trans B35
        refine ⟨_, e5, by rw [List.length_map, ly]; exact line4 (by omega), ys ++ [y], ?_, by rw [List.length_append, ly]; rfl, ?_, Draw.updR D2 hFL B25 D5 e5, But.lcs hFL B25⟩
        · rw [upd_same, List.map_append]
          rfl
        · intro z hz
          rcases List.mem_append.mp hz with h | h
          · exact hy z h
          · rw [List.mem_singleton.mp h]
            exact hn
      · rintro H3 ⟨ys, e3, ly, hy, D3, B3⟩
        have W3 := W2.but B3 D3
        refine ⟨_, rfl, _, rfl, _, rfl, d, 5, rfl, D3, by decide, by decide, fun m H4 m0 m1 D4 B4 => ?_⟩
        refine ⟨d, FL, ys, m.toNat, by rw [show ((m.toNat : Nat) : Int) = m by omega]; rfl, (by show m.toNat ≤ 4; omega), by omega, D4, hFd, B4.seq hFd (SqL.of e3), by omega, by omega, hy, fun t a H5 okt xa D5 B5 => ?_⟩
        have W5 := (W3.but B4 D4).but B5 D5
        have ok4 : OkT 4 t := okt.le (by omega)
        refine ⟨_, rfl, a, t, 4, rfl, by decide, by decide, ok4, xa, fun y H6 ey s6 => ?_⟩
        have W6 := W5.same s6
        have x6 := xa.keep (same_tk s6)
        refine ⟨_, rfl, _, rfl, a, t, 4, rfl, by decide, by decide, ok4, x6, fun y2 H7 ey2 s7 => ?_⟩
        have W7 := W6.same s7
        have x7 := x6.keep (same_tk s7)
        obtain rfl : y2 = y := TL.ext_tl (ey2.trans ey.symm)
        refine ⟨_, _, rfl, same_flat rfl _, fun H8 s8 => ⟨_, rfl, iteF ?_⟩⟩
        have W8 := W7.same s8
        have x8 := x7.keep (same_tk s8)
        have wr := lsT_wr ok4
        have cl := lsT_len ok4
        have m4 := mx_hi (d := 4) (by decide)
        have ly2 : y2.length ≤ 640 := by rw [TL.len_tl, ey]; omega
        have co := cost_le ok4
        have lv := ok_lv ok4
        have hr1 : readT (TL.tl y2) = .inr t := by
          rw [ey]
          exact Wr.read (wr.down (lvl_le t) (Nat.zero_le _)) (by omega)
        have hr2 : readT (TL.tl (Str.ofString "(" ++ y2 ++ Str.ofString ")")) = .inr t := by
          rw [TL.tl_append, TL.tl_append, ey]
          have := ((wr.down (lvl_le t) (Nat.zero_le _)).shut 0 0).down (Nat.le_refl 2) (Nat.zero_le _)
          refine Wr.read (l := [40] ++ lsT t ++ [41]) ?_ (by omega)
          simpa using this
        refine ⟨_, rfl, y2, rfl, line8 (by omega), _, _, rfl, rfl, _, rfl, ite2 (fun _ => ?_) (fun _ => ?_)⟩
        · refine ⟨_, rfl, y2, rfl, by omega, fun t' a' H9 e9 s9 x9 => ?_, fun q eq => by rw [hr1] at eq; cases eq⟩
          rw [hr1] at e9
          cases e9
          refine ⟨_, rfl, _, _, rfl, same_tree ok4 x9 (x8.keep (same_tk s9)), fun H10 s10 => ⟨_, rfl, iteF ?_⟩⟩
          have W10 := (W8.same s9).same s10
          have x10' := (x8.keep (same_tk s9)).keep (same_tk s10)
          refine ⟨_, rfl, _, _, rfl, rfl, by show 1 + y2.length ≤ sizeLine; exact line8 (by omega), _, _, rfl, rfl, by rw [len_app]; show 1 + y2.length + 1 ≤ sizeLine; exact line8 (by omega), Str.ofString "(" ++ y2 ++ Str.ofString ")", rfl, by rw [len_app, len_app]; show 1 + y2.length + 1 ≤ 5000; omega, fun t' a' H11 e11 s11 x11 => ?_, fun q eq => by rw [hr2] at eq; cases eq⟩
          rw [hr2] at e11
          cases e11
          refine ⟨a', t, 4, rfl, by decide, by decide, ok4, x11, fun y3 H12 ey3 s12 => ?_⟩
          obtain rfl : y3 = y2 := TL.ext_tl (ey3.trans ey.symm)
          refine ⟨_, rfl, rfl, _, rfl, ?_⟩
          rw [decide_eq_true rfl]
          have W12 := (W10.same s11).same s12
          have x12 := (x10'.keep (same_tk s11)).keep (same_tk s12)
          refine iteF ?_
          refine ⟨_, rfl, y3, rfl, by omega, by rw [ey]; exact lsT_bal lv, fun WL zs H13 s13 nWL e13 lz gz => ?_⟩
          have W13 := W12.same s13
          have x13 := x12.keep (same_tk s13)
          refine ⟨WL, rfl, ⟨_, SqL.of e13⟩, fun BL hBL => ?_⟩
          have sb := same_upd (o := .lst []) hBL
          obtain ⟨cc, ns1, ii, r1, g1, hd1, hc1, hg1⟩ := W13.D
          have nWB : WL ≠ BL := fun z => by rw [z, hBL] at e13; cases e13
          have ndB : d ≠ BL := fun z => by rw [z, hBL] at hd1; cases hd1
          have ncB : cc ≠ BL := fun z => by rw [z, hBL] at hc1; cases hc1
          refine lc_it (walk_list (xs := zs.map V.str)) (fun i H' => H' BL = some (.lst ((List.replicate i false).map V.bl)) ∧ (H' d = some (.lst [.ref cc, .int ii, .int r1, .int g1]) ∧ H' cc = some (.lst (ns1.map V.int)) ∧ Tabs (TL1 PL) H') ∧ TreeAt H' a t ∧ H' WL = some (.lst (zs.map V.str))) ⟨upd_same, ⟨sb _ _ hd1, sb _ _ hc1, (W13.same sb).T⟩, x13.keep (same_tk sb), sb _ _ e13⟩ (fun i H' _ ⟨_, _, _, e⟩ => SqL.of e) ?_ ?_
          · rintro j x H14 H15 hj ⟨eb, ⟨hd2, hc2, T14⟩, x14, e14⟩ ⟨rfl, hx⟩
            obtain ⟨z, hz, rfl⟩ := List.mem_map.mp (List.mem_of_getElem? hx)
            obtain ⟨lz1, lz2⟩ := gz z hz
            have ljj : j < zs.length := by rw [List.length_map] at hj; exact hj
            have fin : ∀ (Hf : Hp), Hf BL = some (.lst ((List.replicate j false).map V.bl)) → Hf d = some (.lst [.ref cc, .int ii, .int r1, .int g1]) → Hf cc = some (.lst (ns1.map V.int)) → Tabs (TL1 PL) Hf → TreeAt Hf a t → Hf WL = some (.lst (zs.map V.str)) →
                (L2.upd Hf BL (.lst ((List.replicate j false).map V.bl ++ [.bl false]))) BL = some (.lst ((List.replicate (j + 1) false).map V.bl)) ∧ ((L2.upd Hf BL (.lst ((List.replicate j false).map V.bl ++ [.bl false]))) d = some (.lst [.ref cc, .int ii, .int r1, .int g1]) ∧ (L2.upd Hf BL (.lst ((List.replicate j false).map V.bl ++ [.bl false]))) cc = some (.lst (ns1.map V.int)) ∧ Tabs (TL1 PL) (L2.upd Hf BL (.lst ((List.replicate j false).map V.bl ++ [.bl false])))) ∧ TreeAt (L2.upd Hf BL (.lst ((List.replicate j false).map V.bl ++ [.bl false]))) a t ∧ (L2.upd Hf BL (.lst ((List.replicate j false).map V.bl ++ [.bl false]))) WL = some (.lst (zs.map V.str)) := fun Hf f1 f2 f3 f4 f5 f6 => by
              refine ⟨?_, ⟨?_, ?_, Tabs.lst f4 f1⟩, f5.keep (tk_lst f1), ?_⟩
              · rw [upd_same, List.replicate_succ', List.map_append]
                rfl
              · rw [upd_ne ndB]; exact f2
              · rw [upd_ne ncB]; exact f3
              · rw [upd_ne nWB]; exact f6
            have lb : ((List.replicate j false).map V.bl).length < sizeLine := by
              rw [List.length_map, List.length_replicate]
              exact Nat.lt_of_le_of_lt (show j ≤ 640 by omega) (by decide)
            refine ⟨rfl, T14, fun H16 x16 T16 => ?_⟩
            have eb6 := x16 _ _ eb (fun _ z => by cases z)
            have hd6 := x16 _ _ hd2 (fun _ z => by cases z)
            have hc6 := x16 _ _ hc2 (fun _ z => by cases z)
            have e16 := x16 _ _ e14 (fun _ z => by cases z)
            have x6t : TreeAt H16 a t := x14.keep fun b xs e => x16 _ _ e (fun _ z => by cases z)
            refine ⟨_, rfl, z, rfl, by omega, fun t' a' H' ht s' ta => ⟨(by show 2 ≤ sizeLine; decide), fun q hq => ⟨_, rfl, (by show 2 ≤ sizeLine; decide), fun q2 hq2 => ?_⟩⟩, fun k hk => exf_why (j := 2) (by unfold wfs; decide) (by decide) hC hw hwf fun H' q s' hq => ⟨_, rfl, (by show 2 ≤ sizeLine; decide), fun q2 hq2 => ?_⟩⟩
            · have sq := same_upd (o := .tup [.str "told", .ref a']) hq
              have sq2 := same_upd (o := .tup [.str "told", .ref a]) hq2
              have S := (s'.trans sq).trans sq2
              obtain ⟨n1, lv1, c1⟩ := read_need ht
              have hne : t' ≠ t := fun e => by
                rw [e] at n1
                rw [ey, lsT_cnt lv] at lz2
                omega
              refine ⟨_, _, .tup (sqD (sq2 _ _ upd_same)) (.cons (.str _) (.cons (dp_tree (ta.keep ((same_tk sq).trans (same_tk sq2)))) .nil)), .tup (sqD upd_same) (.cons (.str _) (.cons (dp_tree (x6t.keep (same_tk S))) .nil)), told_lay lv1 c1, told_lay lv (by omega), ?_⟩
              rw [told_ne hne]
              exact ⟨_, S _ _ eb6, lb, fin _ (S _ _ eb6) (S _ _ hd6) (S _ _ hc6) (T16.ext S) (x6t.keep (same_tk S)) (S _ _ e16)⟩
            · have sq := same_upd (o := .tup [.str "BadText", .int (k : Int)]) hq
              have sq2 := same_upd (o := .tup [.str "told", .ref a]) hq2
              have S := (s'.trans sq).trans sq2
              refine ⟨_, _, .tup (sqD (sq2 _ _ upd_same)) (.cons (.str _) (.cons (.int _) .nil)), .tup (sqD upd_same) (.cons (.str _) (.cons (dp_tree (x6t.keep (same_tk S))) .nil)), sh_bad k, told_lay lv (by omega), ?_⟩
              rw [bad_ne]
              exact ⟨_, S _ _ eb6, lb, fin _ (S _ _ eb6) (S _ _ hd6) (S _ _ hc6) (T16.ext S) (x6t.keep (same_tk S)) (S _ _ e16)⟩
          · rintro H14 ⟨eb, ⟨hd2, hc2, T14⟩, x14, e14⟩
            refine ⟨BL, _, rfl, SqL.of eb, _, rfl, ?_⟩
            rw [any_no]
            exact iteF ⟨_, _, _, _, _, _, rfl, ⟨cc, ns1, ii, r1, g1, hd2, hc2, hg1⟩, T14, fun p hp => nomatch hp⟩
        · exact ⟨_, _, _, _, _, _, rfl, W8⟩
    · rintro σ' H2 ⟨x2, x3, x4, x5, x10, x11, rfl, W2⟩
      refine ⟨(by show 2 ≤ sizeLine; decide), fun pa ha => ⟨(by show 2 ≤ sizeLine; decide), fun pb hb => ⟨(by show 2 ≤ sizeLine; decide), fun pt ht => ?_⟩⟩⟩
      have sa := same_upd (o := .tup [.str "name", .str "a"]) ha
      have sb := same_upd (o := .tup [.str "name", .str "b"]) hb
      have st := same_upd (o := .tup [.ref pa, .ref pb]) ht
      have xA := st _ _ (sb _ _ (upd_same (a := pa) (H := H2) (o := .tup [.str "name", .str "a"])))
      have xB := st _ _ (upd_same (a := pb) (H := L2.upd H2 pa (.tup [.str "name", .str "a"])) (o := .tup [.str "name", .str "b"]))
      have xT := upd_same (a := pt) (H := L2.upd (L2.upd H2 pa (.tup [.str "name", .str "a"])) pb (.tup [.str "name", .str "b"])) (o := .tup [.ref pa, .ref pb])
      refine ⟨pt, _, rfl, .inl (.inl xT), rfl, _, _, rfl, _, _, rfl, rfl, ?_⟩
      generalize L2.upd (L2.upd (L2.upd H2 pa (.tup [.str "name", .str "a"])) pb (.tup [.str "name", .str "b"])) pt (.tup [.ref pa, .ref pb]) = H3 at *
      have xA : TreeAt H3 pa tA := ⟨"a", xA, rfl⟩
      have xB : TreeAt H3 pb tB := ⟨"b", xB, rfl⟩
      clear xT sa sb st
      refine ⟨_, rfl, _, rfl, (by show 3 ≤ sizeLine; decide), fun p1 h1 => ⟨2, rfl, (by show 3 ≤ sizeLine; decide), fun p2 h2 => ⟨_, rfl, (by show 3 ≤ sizeLine; decide), fun p3 h3 => ⟨(by show 2 ≤ sizeLine; decide), fun p4 h4 => ⟨(by show 2 ≤ sizeLine; decide), fun L1 hL1 => ?_⟩⟩⟩⟩⟩
      have s1 := same_upd (o := .tup [.str "plus", .ref pa, .ref pb]) h1
      have s2 := same_upd (o := .tup [.str "power", .ref p1, .int (-2)]) h2
      have s3 := same_upd (o := .tup [.str "power", .ref pa, .int 0]) h3
      have s4 := same_upd (o := .tup [.str "turned", .ref p3]) h4
      have s5 := same_upd (o := .lst [.ref p2, .ref p4]) hL1
      have k12 := (same_tk s1).trans (same_tk s2)
      have k345 := ((same_tk s3).trans (same_tk s4)).trans (same_tk s5)
      have k5 := k12.trans k345
      have t1 : TreeAt _ p2 (.power (.bin .plus tA tB) (-2)) := TreeAt.keep k345 ⟨p1, upd_same, pa, pb, s2 _ _ upd_same, xA.keep k12, xB.keep k12⟩
      have t2 : TreeAt _ p4 (.turned (.power tA 0)) := TreeAt.keep (same_tk s5) ⟨p3, upd_same, pa, s4 _ _ upd_same, xA.keep ((k12.trans (same_tk s3)).trans (same_tk s4))⟩
      have xA := xA.keep k5
      have xB := xB.keep k5
      have eL1 := upd_same (a := L1) (H := L2.upd (L2.upd (L2.upd (L2.upd H3 p1 (.tup [.str "plus", .ref pa, .ref pb])) p2 (.tup [.str "power", .ref p1, .int (-2)])) p3 (.tup [.str "power", .ref pa, .int 0])) p4 (.tup [.str "turned", .ref p3])) (o := .lst [.ref p2, .ref p4])
      clear s1 s2 s3 s4 s5 k12 k345 k5
      show tSeq _ _ _ _ (L2.upd (L2.upd (L2.upd (L2.upd (L2.upd H3 p1 (.tup [.str "plus", .ref pa, .ref pb])) p2 (.tup [.str "power", .ref p1, .int (-2)])) p3 (.tup [.str "power", .ref pa, .int 0])) p4 (.tup [.str "turned", .ref p3])) L1 (.lst [.ref p2, .ref p4]))
      generalize L2.upd (L2.upd (L2.upd (L2.upd (L2.upd H3 p1 (.tup [.str "plus", .ref pa, .ref pb])) p2 (.tup [.str "power", .ref p1, .int (-2)])) p3 (.tup [.str "power", .ref pa, .int 0])) p4 (.tup [.str "turned", .ref p3])) L1 (.lst [.ref p2, .ref p4]) = H4 at xA xB t1 t2 eL1 ⊢
      clear h1 h2 h3 h4 hL1
      refine ⟨_, rfl, _, rfl, _, rfl, _, rfl, (by show 3 ≤ sizeLine; decide), fun p5 h5 => ⟨(by show 3 ≤ sizeLine; decide), fun p6 h6 => ⟨_, rfl, _, rfl, (by show 3 ≤ sizeLine; decide), fun p7 h7 => ⟨_, rfl, (by show 3 ≤ sizeLine; decide), fun p8 h8 => ⟨(by show 2 ≤ sizeLine; decide), fun L2' hL2 => ?_⟩⟩⟩⟩⟩
      have s1 := same_upd (o := .tup [.str "minus", .ref pb, .ref pa]) h5
      have s2 := same_upd (o := .tup [.str "minus", .ref pa, .ref p5]) h6
      have s3 := same_upd (o := .tup [.str "over", .ref pa, .ref pb]) h7
      have s4 := same_upd (o := .tup [.str "times", .ref p7, .ref pa]) h8
      have s5 := same_upd (o := .lst [.ref p6, .ref p8]) hL2
      have k12 := (same_tk s1).trans (same_tk s2)
      have k34 := (same_tk s3).trans (same_tk s4)
      have k1234 := k12.trans k34
      have k345 := k34.trans (same_tk s5)
      have k5 := k12.trans k345
      have t3 : TreeAt (L2.upd (L2.upd (L2.upd (L2.upd (L2.upd H4 p5 (.tup [.str "minus", .ref pb, .ref pa])) p6 (.tup [.str "minus", .ref pa, .ref p5])) p7 (.tup [.str "over", .ref pa, .ref pb])) p8 (.tup [.str "times", .ref p7, .ref pa])) L2' (.lst [.ref p6, .ref p8])) p6 (.bin .minus tA (.bin .minus tB tA)) := TreeAt.keep k345 ⟨pa, p5, upd_same, xA.keep k12, pb, pa, s2 _ _ upd_same, xB.keep k12, xA.keep k12⟩
      have t4 : TreeAt (L2.upd (L2.upd (L2.upd (L2.upd (L2.upd H4 p5 (.tup [.str "minus", .ref pb, .ref pa])) p6 (.tup [.str "minus", .ref pa, .ref p5])) p7 (.tup [.str "over", .ref pa, .ref pb])) p8 (.tup [.str "times", .ref p7, .ref pa])) L2' (.lst [.ref p6, .ref p8])) p8 (.bin .times (.bin .over tA tB) tA) := TreeAt.keep (same_tk s5) ⟨p7, pa, upd_same, ⟨pa, pb, s4 _ _ upd_same, xA.keep k1234, xB.keep k1234⟩, xA.keep k1234⟩
      have t1 := t1.keep k5
      have t2 := t2.keep k5
      have eL1 := s5 _ _ (s4 _ _ (s3 _ _ (s2 _ _ (s1 _ _ eL1))))
      have eL2 : (L2.upd (L2.upd (L2.upd (L2.upd (L2.upd H4 p5 (.tup [.str "minus", .ref pb, .ref pa])) p6 (.tup [.str "minus", .ref pa, .ref p5])) p7 (.tup [.str "over", .ref pa, .ref pb])) p8 (.tup [.str "times", .ref p7, .ref pa])) L2' (.lst [.ref p6, .ref p8])) L2' = some (.lst [.ref p6, .ref p8]) := upd_same
      refine ⟨L1, L2', [.ref p2, .ref p4], [.ref p6, .ref p8], rfl, rfl, eL1, eL2, (by show 2 + 2 ≤ sizeLine; decide), fun SL hSL => ⟨(by show 4 ≤ sizeLine; decide), fun DL hDL => ?_⟩⟩
      clear s1 s2 s3 s4 s5 k12 k34 k1234 k345 k5 xA xB
      generalize (L2.upd (L2.upd (L2.upd (L2.upd (L2.upd H4 p5 (.tup [.str "minus", .ref pb, .ref pa])) p6 (.tup [.str "minus", .ref pa, .ref p5])) p7 (.tup [.str "over", .ref pa, .ref pb])) p8 (.tup [.str "times", .ref p7, .ref pa])) L2' (.lst [.ref p6, .ref p8])) = H5 at t1 t2 t3 t4 eL1 eL2 hSL hDL ⊢
      have s6 := same_upd (o := .lst [.ref p2, .ref p4, .ref p6, .ref p8]) hSL
      have s7 := same_upd (o := .lst (due4.map V.str)) hDL
      have k67 := (same_tk s6).trans (same_tk s7)
      have t1 := t1.keep k67
      have t2 := t2.keep k67
      have t3 := t3.keep k67
      have t4 := t4.keep k67
      have eS := s7 _ _ (upd_same (a := SL) (H := H5) (o := .lst [.ref p2, .ref p4, .ref p6, .ref p8]))
      have eD := upd_same (a := DL) (H := L2.upd H5 SL (.lst [.ref p2, .ref p4, .ref p6, .ref p8])) (o := .lst (due4.map V.str))
      refine ⟨_, rfl, SL, rfl, ⟨_, SqL.of eS⟩, fun RL hRL => ?_⟩
      have s8 := same_upd (o := .lst []) hRL
      have nSR : SL ≠ RL := fun z => by
        have e := eS.symm.trans ((congrArg _ z).trans hRL)
        cases e
      have nDR : DL ≠ RL := fun z => by
        have e := eD.symm.trans ((congrArg _ z).trans hRL)
        cases e
      have trees : ∀ Hx : Hp, TreeAt Hx p2 (.power (.bin .plus tA tB) (-2)) → TreeAt Hx p4 (.turned (.power tA 0)) → TreeAt Hx p6 (.bin .minus tA (.bin .minus tB tA)) → TreeAt Hx p8 (.bin .times (.bin .over tA tB) tA) → ∀ (j : Nat) (v : V), [V.ref p2, V.ref p4, V.ref p6, V.ref p8][j]? = some v → ∃ r t, v = .ref r ∧ trs4[j]? = some t ∧ TreeAt Hx r t := fun Hx u1 u2 u3 u4 j v hv => by
        match j, hv with
        | 0, hv => cases hv; exact ⟨_, _, rfl, rfl, u1⟩
        | 1, hv => cases hv; exact ⟨_, _, rfl, rfl, u2⟩
        | 2, hv => cases hv; exact ⟨_, _, rfl, rfl, u3⟩
        | 3, hv => cases hv; exact ⟨_, _, rfl, rfl, u4⟩
      have all8 := trees _ (t1.keep (same_tk s8)) (t2.keep (same_tk s8)) (t3.keep (same_tk s8)) (t4.keep (same_tk s8))
      refine lc_it (walk_list (xs := [.ref p2, .ref p4, .ref p6, .ref p8])) (fun i H' => H' RL = some (.lst ((due4.take i).map V.str)) ∧ (∀ (j : Nat) (v : V), [V.ref p2, V.ref p4, V.ref p6, V.ref p8][j]? = some v → ∃ r t, v = .ref r ∧ trs4[j]? = some t ∧ TreeAt H' r t) ∧ H' SL = some (.lst [.ref p2, .ref p4, .ref p6, .ref p8]) ∧ H' DL = some (.lst (due4.map V.str))) ⟨upd_same, all8, s8 _ _ eS, s8 _ _ eD⟩ (fun i H' _ ⟨_, _, e, _⟩ => SqL.of e) ?_ ?_
      · rintro j x H14 H15 hj ⟨eb, al, e14, e15⟩ ⟨rfl, hx⟩
        obtain ⟨r, t, rfl, ht, xr⟩ := al j x hx
        have hj : j < 4 := hj
        obtain ⟨y0, hy0⟩ : ∃ y0, due4[j]? = some y0 := ⟨_, List.getElem?_eq_getElem (show j < due4.length from hj)⟩
        obtain ⟨ec, ok⟩ := due_ok j t y0 ht hy0
        refine ⟨rfl, _, rfl, r, t, 4, rfl, by decide, by decide, ok, xr, fun y H16 ey s16 => ?_⟩
        obtain rfl : y = y0 := TL.ext_tl (ey.trans ec)
        have eb6 := s16 _ _ eb
        refine ⟨_, eb6, by rw [List.length_map, List.length_take]; exact Nat.lt_of_le_of_lt (Nat.min_le_left _ _) (Nat.lt_of_lt_of_le hj (by decide)), ?_, fun i v hv => ?_, ?_, ?_⟩
        · rw [upd_same, List.take_add_one, hy0, List.map_append]
          rfl
        · obtain ⟨r', t', e1, e2, x'⟩ := al i v hv
          exact ⟨r', t', e1, e2, (x'.keep (same_tk s16)).keep (tk_lst eb6)⟩
        · rw [upd_ne nSR]
          exact s16 _ _ e14
        · rw [upd_ne nDR]
          exact s16 _ _ e15
      · rintro H14 ⟨eb, al, e14, e15⟩
        refine ⟨_, rfl, ?_⟩
        have dD : ∀ (Hx : Hp) (p : Addr), Hx p = some (.lst (due4.map V.str)) → Dp K Hx (.ref p) (.list (due4.map PyData.str)) := fun Hx p e => .lst (SqL.of e) (.cons (.str _) (.cons (.str _) (.cons (.str _) (.cons (.str _) .nil))))
        have sh : SeqAt.shaped (.list (due4.map PyData.str)) = true := by decide +kernel
        refine ⟨_, _, dD _ RL eb, dD _ DL e15, sh, sh, ?_⟩
        rw [SeqAt.eqv_refl _ (shaped_lay sh)]
        exact k _
end
end Xk
end
section
set_option Elab.async false
set_option linter.all false
set_option maxRecDepth 100000
set_option maxHeartbeats 4000000
namespace Xk
open PySem PySem.Spec PyProof.Rows L2 Xh LamX He NdefX
section
variable {P : Program} {w : World} {K : PySem.W.Frag} {mg : Str → Option Value} {base : Heap}
theorem o_init0 {f : Addr} {fd : FuncData} (F : FunD K "__init__" "RungError.__init__" (defArgs s_RungError___init) (defBody s_RungError___init) (defScope s_RungError___init) [] [] f fd) : FnR P w K mg base (L2.CX P w) 1 f (spRI1 K) :=
  ok_rinit (st := s_RungError___init) F sc_RungError___init (fun kV doc pm an cdv ct => StX.bind_star1 (p1 := "self") (pv := "told") (B := fun vs => bindArgs (PySem.W.fnOf "__init__" "RungError.__init__" (defArgs s_RungError___init) (defBody s_RungError___init) (defScope s_RungError___init) .none kV doc pm an cdv ct) ⟨vs, []⟩) (fun a => rfl) (fun a r rs => rfl))
    (fun X hK hN hs => by
      subst hK
      have hN0 : X.N[0]? = some ("self" : Str) := by rw [hN]; rfl
      have hv0 : Vis X.env.scope ("self" : Str) := by rw [hs]; first | exact Or.inl rfl | exact Or.inr (Or.inl rfl) | exact Or.inr (Or.inr rfl)
      exact pss_one (ps_ost (pv 0 hN0 hv0) (pe_clsnm (pv 0 hN0 hv0))))
theorem f_init_BadText {f R g : Addr} {fd : FuncData} (F : FunD K "__init__" "BadText.__init__" (defArgs s_BadText___init) (defBody s_BadText___init) (defScope s_BadText___init) [] [] f fd) (hm : mg "RungError" = some (.ref R)) (c : CDef K R g "__init__") (o : FnR P w K mg base (L2.CX P w) 1 g (spRI1 K)) : FnOk P w K mg base (L2.CX P w) 2 f fd ["self", "at"] (spFI K "at") :=
  ok_finit (st := s_BadText___init) (fI := f) (R := R) F sc_BadText___init (fun X hK hP hw hmg hb hN hs hr hx => by
    subst hK hP hw hmg hb
    have hN0 : X.N[0]? = some ("self" : Str) := by rw [hN]; rfl
    have hN1 : X.N[1]? = some ("at" : Str) := by rw [hN]; rfl
    have v0 : Vis X.env.scope ("self" : Str) := by rw [hs]; first | exact Or.inl rfl | exact Or.inr (Or.inl rfl) | exact Or.inr (Or.inr rfl)
    have v1 : Vis X.env.scope ("at" : Str) := by rw [hs]; first | exact Or.inl rfl | exact Or.inr (Or.inl rfl) | exact Or.inr (Or.inr rfl)
    have gl : Gl X ("RungError" : Str) := by
      show X.env.scope.names.lookup ("RungError" : Str) = some NameKind.globalImplicit
      rw [hs]
      rfl
    exact pss_cons (ps_expr (pe_cdef gl hm c o hr hx (pa_cons (pv 0 hN0 v0) pa_nil))) (pss_one (ps_ost (pv 0 hN0 v0) (pv 1 hN1 v1))))
theorem code_of {x q : Str} {params : Arguments} {body : List Stmt} {scope : Scope} {dvs : List V} {kws : List (Str × V)} {p : Defn} {fd : FuncData} (F : FunD K x q params body scope dvs kws (fAd K p) fd) : fd.code = .ref (cT K p).1 := by
  obtain ⟨oc, od, dV, kV, doc, pm, an, cdv, ct, osl, rfl, lk, hcd, hD, _⟩ := F.ex
  obtain ⟨c, rfl⟩ := codeIn_ref hcd
  show Value.ref c = .ref (codeOf K p)
  rw [codeOf_eq lk rfl]
def kOf (K : PySem.W.Frag) (i : Fin 14) : Addr := ga K (((["BadText"] : List Str)).getD i.val "BadText")
theorem dic_none {K : PySem.W.Frag} {w : World} {a : Addr} {ks : List Str} (h : dicW K a = some (keysIn w.params ks)) {z : Str} (hz : z ∉ ks) : PySem.W.nsIn K a z = some none := by
  obtain ⟨es, n, D⟩ := dicW_ok h
  have h1 : es.toList.map keyOf = keysIn w.params ks := by
    have h0 := h
    unfold dicW at h0
    rw [D.at_] at h0
    have h0 : (match decide (("dict" : String) = "dict") && ((#[] : Array (Option Value)).isEmpty && !(a == sysModules)) with
      | true => some (es.toList.map keyOf)
      | false => none) = some (keysIn w.params ks) := h0
    rw [D.low] at h0
    exact Option.some.inj h0
  have h2 : ∀ e ∈ es.toList, ∃ k t, e.key = .str k t ∧ k ∈ ks := fun e he => by
    have h3 : keyOf e ∈ keysIn w.params ks := by rw [← h1]; exact List.mem_map.mpr ⟨e, he, rfl⟩
    unfold keysIn at h3
    obtain ⟨k, hk, e2⟩ := List.mem_map.mp h3
    unfold keyOf at e2
    split at e2
    · rename_i x t q
      have := (Prod.mk.inj (Option.some.inj e2)).1
      exact ⟨x, t, q, this ▸ hk⟩
    · cases e2
  have h4 : es.toList.find? (·.key.isStr z) = none := List.find?_eq_none.mpr fun e he => by
    obtain ⟨k, t, e2, hk⟩ := h2 e he
    rw [e2]
    show ¬ (k == z) = true
    intro q
    exact hz (eq_of_beq q ▸ hk)
  have h5 : es.toList.any (·.refKey) = false := by
    rw [List.any_eq_false]
    intro e he
    obtain ⟨k, t, e2, _⟩ := h2 e he
    unfold DictEntry.refKey
    rw [e2]
    exact Bool.false_ne_true
  unfold PySem.W.nsIn
  rw [D.at_]
  show (match es.toList.find? (·.key.isStr z) with
    | some e => some (some e.val)
    | none => if es.toList.any (·.refKey) then none else some none) = some none
  rw [h4]
  show (if es.toList.any (·.refKey) then none else some none) = some none
  rw [h5]
  rfl
theorem kinds_of {K : PySem.W.Frag} {w : World} {a : Addr} (h : dicW K a = some (keysIn w.params ["+", "-", "*", "/"])) (v : valsB K a [("+", .str "plus"), ("-", .str "minus"), ("*", .str "times"), ("/", .str "over")] = true) : KindsF K a := by
  refine ⟨fun k => ?_, fun z hz => dic_none h fun hm => ?_⟩
  · cases k with
    | plus => exact valsB_ok v (q := ("+", .str "plus")) (List.mem_cons_self)
    | minus => exact valsB_ok v (q := ("-", .str "minus")) (List.mem_cons_of_mem _ List.mem_cons_self)
    | times => exact valsB_ok v (q := ("*", .str "times")) (List.mem_cons_of_mem _ (List.mem_cons_of_mem _ List.mem_cons_self))
    | over => exact valsB_ok v (q := ("/", .str "over")) (List.mem_cons_of_mem _ (List.mem_cons_of_mem _ (List.mem_cons_of_mem _ List.mem_cons_self)))
  · rcases List.mem_cons.mp hm with rfl | hm
    · exact hz .plus rfl
    rcases List.mem_cons.mp hm with rfl | hm
    · exact hz .minus rfl
    rcases List.mem_cons.mp hm with rfl | hm
    · exact hz .times rfl
    rcases List.mem_cons.mp hm with rfl | hm
    · exact hz .over rfl
    cases hm
theorem signs_of {K : PySem.W.Frag} {w : World} {a : Addr} {es : Array DictEntry} {n : Nat} (D : KDict K w a es n) (v : valsB K a [("plus", .str "+"), ("minus", .str "-"), ("times", .str "*"), ("over", .str "/")] = true) (k : Xp.Op) : KDct K w a (opS k) (.str (sg1 k)) := by
  have go : (∃ u, PySem.W.nsIn K a (opS k) = some (some u) ∧ RelV (.str (sg1 k)) u) := by
    cases k with
    | plus => exact valsB_ok v (q := ("plus", .str "+")) (List.mem_cons_self)
    | minus => exact valsB_ok v (q := ("minus", .str "-")) (List.mem_cons_of_mem _ List.mem_cons_self)
    | times => exact valsB_ok v (q := ("times", .str "*")) (List.mem_cons_of_mem _ (List.mem_cons_of_mem _ List.mem_cons_self))
    | over => exact valsB_ok v (q := ("over", .str "/")) (List.mem_cons_of_mem _ (List.mem_cons_of_mem _ (List.mem_cons_of_mem _ List.mem_cons_self)))
  obtain ⟨u, h1, h2⟩ := go
  exact ⟨es, n, u, D.at_, D.lit, h1, h2⟩
theorem facts {h : Heap} {f : Addr} (X : K.In h) (G : h.Ns mainGlobals mg) (hfa : mg ("law" : Str) = some (.ref f)) (c : SaysX faL fnL tsL [("law", none)] exL w h K) :
    ∃ fd : FuncData, (∀ (s : Shared) (v : Value), BindsTo s fd ⟨[v], []⟩ [("_law_script", v)]) ∧ ∀ base : Heap, TabB base mg (cT K ("law", none)).1 (cT K ("law", none)).2 → FnOk P w K mg base CX0 14 f fd ["_law_script"] (spLaw K (cT K ("law", none)).2) := by
  obtain ⟨e0, e⟩ := ba c.more
  obtain ⟨e1, e⟩ := ba e
  obtain ⟨e2, e⟩ := ba e
  obtain ⟨e3, e⟩ := ba e
  obtain ⟨e4, e⟩ := ba e
  obtain ⟨e5, e⟩ := ba e
  obtain ⟨e6, e⟩ := ba e
  obtain ⟨e7, e⟩ := ba e
  obtain ⟨e8, e⟩ := ba e
  obtain ⟨e9, e⟩ := ba e
  obtain ⟨e10, e⟩ := ba e
  obtain ⟨e11, e⟩ := ba e
  obtain ⟨e12, e⟩ := ba e
  obtain ⟨e13, e⟩ := ba e
  obtain ⟨e14, e⟩ := ba e
  obtain ⟨e15, e⟩ := ba e
  obtain ⟨e16, e⟩ := ba e
  obtain ⟨e17, e⟩ := ba e
  obtain ⟨e18, e⟩ := ba e
  obtain ⟨e19, e⟩ := ba e
  obtain ⟨e20, e⟩ := ba e
  have e21 := e
  obtain ⟨r_BadText, w_BadText, i_BadText, t_BadText⟩ := clsB_ok e0
  have v_BadText := eqO_ok e1
  have hC_BadText := catchB_ok e3
  have cl_Reader := clB_ok e4
  have na_Reader__trees := naB_ok e5
  have na_Reader__waiting := naB_ok e6
  have na_Reader__parts := naB_ok e7
  have na_Reader__awaited := naB_ok e8
  obtain ⟨fdRungError___init, FRungError___init⟩ := c.t.d.def_ 0 (d := fnL[0]) rfl
  obtain ⟨fdBadText___init, FBadText___init⟩ := c.t.d.def_ 1 (d := fnL[1]) rfl
  obtain ⟨fdis_name, Fis_name⟩ := c.t.d.def_ 2 (d := fnL[2]) rfl
  obtain ⟨fdis_figures, Fis_figures⟩ := c.t.d.def_ 3 (d := fnL[3]) rfl
  obtain ⟨fdwords_of, Fwords_of⟩ := c.t.d.def_ 4 (d := fnL[4]) rfl
  obtain ⟨fdis_wordly, Fis_wordly⟩ := c.t.d.def_ 5 (d := fnL[5]) rfl
  obtain ⟨fdgoes_ahead, Fgoes_ahead⟩ := c.t.d.def_ 6 (d := fnL[6]) rfl
  obtain ⟨fdReader___init, FReader___init⟩ := c.t.d.def_ 7 (d := fnL[7]) rfl
  obtain ⟨fdReader_take, FReader_take⟩ := c.t.d.def_ 8 (d := fnL[8]) rfl
  obtain ⟨fdReader__begin, FReader__begin⟩ := c.t.d.def_ 9 (d := fnL[9]) rfl
  obtain ⟨fdReader__go_on, FReader__go_on⟩ := c.t.d.def_ 10 (d := fnL[10]) rfl
  obtain ⟨fdReader__exponent, FReader__exponent⟩ := c.t.d.def_ 11 (d := fnL[11]) rfl
  obtain ⟨fdReader__close, FReader__close⟩ := c.t.d.def_ 12 (d := fnL[12]) rfl
  obtain ⟨fdReader__join, FReader__join⟩ := c.t.d.def_ 13 (d := fnL[13]) rfl
  obtain ⟨fdReader__fold, FReader__fold⟩ := c.t.d.def_ 14 (d := fnL[14]) rfl
  obtain ⟨fdReader_ended, FReader_ended⟩ := c.t.d.def_ 15 (d := fnL[15]) rfl
  obtain ⟨fdread, Fread⟩ := c.t.d.def_ 16 (d := fnL[16]) rfl
  obtain ⟨fdwrite, Fwrite⟩ := c.t.d.def_ 17 (d := fnL[17]) rfl
  obtain ⟨fdbracketed, Fbracketed⟩ := c.t.d.def_ 18 (d := fnL[18]) rfl
  obtain ⟨fdlaw_begin, Flaw_begin⟩ := c.t.d.def_ 19 (d := fnL[19]) rfl
  obtain ⟨fdlaw_take, Flaw_take⟩ := c.t.d.def_ 20 (d := fnL[20]) rfl
  obtain ⟨fdlaw_of, Flaw_of⟩ := c.t.d.def_ 21 (d := fnL[21]) rfl
  obtain ⟨fdlaw_same, Flaw_same⟩ := c.t.d.def_ 22 (d := fnL[22]) rfl
  obtain ⟨fdlaw_why, Flaw_why⟩ := c.t.d.def_ 23 (d := fnL[23]) rfl
  obtain ⟨fdlaw_letters, Flaw_letters⟩ := c.t.d.def_ 24 (d := fnL[24]) rfl
  obtain ⟨fdlaw_fresh, Flaw_fresh⟩ := c.t.d.def_ 25 (d := fnL[25]) rfl
  obtain ⟨fdlaw_tree, Flaw_tree⟩ := c.t.d.def_ 26 (d := fnL[26]) rfl
  obtain ⟨fdlaw_signs, Flaw_signs⟩ := c.t.d.def_ 27 (d := fnL[27]) rfl
  obtain ⟨fdlaw_shut, Flaw_shut⟩ := c.t.d.def_ 28 (d := fnL[28]) rfl
  obtain ⟨fdlaw_text, Flaw_text⟩ := c.t.d.def_ 29 (d := fnL[29]) rfl
  obtain ⟨fdlaw_without, Flaw_without⟩ := c.t.d.def_ 30 (d := fnL[30]) rfl
  obtain ⟨fdlaw, Flaw⟩ := c.t.d.def_ 31 (d := fnL[31]) rfl
  have mk_Reader := mkB_ok e9
  have mt_Reader_take := mtB_ok e10 FReader_take.kp
  have mt_Reader__begin := mtB_ok e11 FReader__begin.kp
  have mt_Reader__go_on := mtB_ok e12 FReader__go_on.kp
  have mt_Reader__exponent := mtB_ok e13 FReader__exponent.kp
  have mt_Reader__close := mtB_ok e14 FReader__close.kp
  have mt_Reader__join := mtB_ok e15 FReader__join.kp
  have mt_Reader__fold := mtB_ok e16 FReader__fold.kp
  have mt_Reader_ended := mtB_ok e17 FReader_ended.kp
  have e := hfa.symm.trans (glo_ok X G (c.t.d.fact 37 (f := .glo "law") rfl))
  cases e
  have b := FunD.bindsA (ps := ["_law_script"]) Flaw fun _ _ _ _ _ _ us hl => match us, hl with | [_], _ => rfl
  have T : Fre mg := ⟨free_ok X G (c.t.d.fact 42 (f := .free "len") rfl), free_ok X G (c.t.d.fact 43 (f := .free "abs") rfl), free_ok X G (c.t.d.fact 44 (f := .free "list") rfl), free_ok X G (c.t.d.fact 45 (f := .free "tuple") rfl), free_ok X G (c.t.d.fact 46 (f := .free "int") rfl), free_ok X G (c.t.d.fact 47 (f := .free "bool") rfl), free_ok X G (c.t.d.fact 48 (f := .free "str") rfl), free_ok X G (c.t.d.fact 49 (f := .free "isinstance") rfl), free_ok X G (c.t.d.fact 50 (f := .free "range") rfl), free_ok X G (c.t.d.fact 51 (f := .free "all") rfl), free_ok X G (c.t.d.fact 52 (f := .free "zip") rfl), free_ok X G (c.t.d.fact 53 (f := .free "enumerate") rfl), free_ok X G (c.t.d.fact 54 (f := .free "max") rfl), free_ok X G (c.t.d.fact 55 (f := .free "reversed") rfl), free_ok X G (c.t.d.fact 56 (f := .free "any") rfl), free_ok X G (c.t.d.fact 57 (f := .free "sorted") rfl), free_ok X G (c.t.d.fact 58 (f := .free "set") rfl), free_ok X G (c.t.d.fact 59 (f := .free "sum") rfl)⟩
  have M8 : Cls8 mg (cOf K) := ⟨glo_ok X G (c.t.d.fact 0 (f := .glo "NotWhole") rfl), glo_ok X G (c.t.d.fact 1 (f := .glo "TooTall") rfl), glo_ok X G (c.t.d.fact 2 (f := .glo "BadTable") rfl), glo_ok X G (c.t.d.fact 3 (f := .glo "BadText") rfl), glo_ok X G (c.t.d.fact 4 (f := .glo "BadPage") rfl), glo_ok X G (c.t.d.fact 5 (f := .glo "Stopped") rfl), glo_ok X G (c.t.d.fact 6 (f := .glo "Used") rfl), glo_ok X G (c.t.d.fact 7 (f := .glo "Held") rfl), glo_ok X G (c.t.d.fact 8 (f := .glo "NoGuest") rfl), glo_ok X G (c.t.d.fact 9 (f := .glo "NoName") rfl), glo_ok X G (c.t.d.fact 10 (f := .glo "RungError") rfl), glo_ok X G (c.t.d.fact 11 (f := .glo "RungMissing") rfl)⟩
  have x_BadText : RXF K mg (ga K "BadText") (ma K (ga K "BadText") "__init__") "BadText" "at" := ⟨r_BadText, w_BadText, v_BadText, i_BadText, t_BadText, glo_ok X G (c.t.d.fact 3 (f := .glo "BadText") rfl)⟩
  have bI_BadText := FunD.bindsN (ps := ["self", "at"]) FBadText___init fun _ _ _ _ _ _ us hl => match us, hl with | [_, _], _ => rfl
  have cI := cdefB_ok e2 FRungError___init.kp
  have mI_MOST_LETTERS : ∃ t, mg "MOST_LETTERS" = some (.int 8 t) := int_ok X G (c.t.d.fact 38 (f := .int "MOST_LETTERS" 8) rfl)
  have mI_MOST_FIGURES : ∃ t, mg "MOST_FIGURES" = some (.int 6 t) := int_ok X G (c.t.d.fact 39 (f := .int "MOST_FIGURES" 6) rfl)
  have mI_MOST_PARTS : ∃ t, mg "MOST_PARTS" = some (.int 40 t) := int_ok X G (c.t.d.fact 40 (f := .int "MOST_PARTS" 40) rfl)
  have mS_BRACKET : ∃ t, mg "BRACKET" = some (.str "(" t) := str_ok X G (c.t.d.fact 41 (f := .str "BRACKET" "(") rfl)
  have m_KINDS : mg "KINDS" = some (.ref (ga K "KINDS")) := glo_ok X G (c.t.d.fact 12 (f := .glo "KINDS") rfl)
  have m_STRONG : mg "STRONG" = some (.ref (ga K "STRONG")) := glo_ok X G (c.t.d.fact 13 (f := .glo "STRONG") rfl)
  have m_SIGNS : mg "SIGNS" = some (.ref (ga K "SIGNS")) := glo_ok X G (c.t.d.fact 14 (f := .glo "SIGNS") rfl)
  have m_WEAK : mg "WEAK" = some (.ref (ga K "WEAK")) := glo_ok X G (c.t.d.fact 15 (f := .glo "WEAK") rfl)
  refine ⟨fdlaw, fun s v => b s [v] rfl, fun base TB_law => ?_⟩
  have o_init : FnR P w K mg base (L2.CX P w) 1 (ma K (ga K "RungError") "__init__") (spRI1 K) := o_init0 FRungError___init
  have fI_BadText := f_init_BadText (P := P) (w := w) (base := base) FBadText___init (glo_ok X G (c.t.d.fact 10 (f := .glo "RungError") rfl)) cI o_init
  have mC_Reader : mg "Reader" = some (.ref (ga K "Reader")) := glo_ok X G (c.t.d.fact 16 (f := .glo "Reader") rfl)
  have hS0 := tupB_ok e18
  have hV0 := id e19
  have hW0 := tupB_ok e20
  have hG0 := id e21
  have KR : RdK K (ga K "Reader") := ⟨cl_Reader, na_Reader__trees, na_Reader__waiting, na_Reader__parts, na_Reader__awaited⟩
  have hS : ∀ H, SqT K H (ga K "STRONG") strongs := fun H => hS0 H
  obtain ⟨es0, nd0, DK⟩ := c.t.tab 0
  obtain ⟨es1, nd1, DG⟩ := c.t.tab 1
  have hT0 : [dicW K (ga K "KINDS"), dicW K (ga K "SIGNS")] = [some (keysIn w.params ["+", "-", "*", "/"]), some (keysIn w.params wordsK)] := congrArg (fun z : AlT => z.2) c.t
  have hK : KindsF K (ga K "KINDS") := kinds_of (List.cons.inj hT0).1 hV0
  have kG : KKeys K w (ga K "SIGNS") wordsK := kk_of (List.cons.inj (List.cons.inj hT0).2).1 (by decide)
  have hG : ∀ k : Xp.Op, KDct K w (ga K "SIGNS") (opS k) (.str (sg1 k)) := fun k => signs_of DG hG0 k
  have hW : ∀ H, SqT K H (ga K "WEAK") (kindsL 1) := fun H => hW0 H
  have hmT0 : ((cT K ("law", none)).2, lawQ) ∈ (TL1 (cT K ("law", none)).2) := List.mem_cons_self
  have hu0 : ∀ p ∈ (TL1 (cT K ("law", none)).2), p.1 = (cT K ("law", none)).2 → p.2 = lawQ := fun p hp e => by
    have hp := List.mem_singleton.mp hp
    subst hp
    exact rfl
  have o_law_begin := own_of Flaw_begin (ok_begin (P := P) (w := w) (mg := mg) (base := base)  Flaw_begin T) (glo_ok X G (c.t.d.fact 25 (f := .glo "_law_begin") rfl)) (fun _ _ _ _ _ _ us hl => match us, hl with | [_], _ => rfl)
  have o_law_take := own_of Flaw_take (ok_take (P := P) (w := w) (mg := mg) (base := base)  Flaw_take T) (glo_ok X G (c.t.d.fact 26 (f := .glo "_law_take") rfl)) (fun _ _ _ _ _ _ us hl => match us, hl with | [_, _], _ => rfl)
  have o_law_of := own_of Flaw_of (ok_of (P := P) (w := w) (mg := mg) (base := base)  Flaw_of T o_law_take) (glo_ok X G (c.t.d.fact 27 (f := .glo "_law_of") rfl)) (fun _ _ _ _ _ _ us hl => match us, hl with | [_, _], _ => rfl)
  have o_s_law_of := own_of Flaw_of (z_law_of (P := P) (w := w) (mg := mg) (base := base)  Flaw_of T o_law_take) (glo_ok X G (c.t.d.fact 27 (f := .glo "_law_of") rfl)) (fun _ _ _ _ _ _ us hl => match us, hl with | [_, _], _ => rfl)
  have o_law_same := own_of Flaw_same (ok_same (P := P) (w := w) (mg := mg) (base := base)  Flaw_same T (glo_ok X G (c.t.d.fact 28 (f := .glo "_law_same") rfl)) 6) (glo_ok X G (c.t.d.fact 28 (f := .glo "_law_same") rfl)) (fun _ _ _ _ _ _ us hl => match us, hl with | [_, _], _ => rfl)
  have o_is_wordly := own_of Fis_wordly (ok_is_wordly (P := P) (w := w) (mg := mg) (base := base)  Fis_wordly) (glo_ok X G (c.t.d.fact 20 (f := .glo "is_wordly") rfl)) (fun _ _ _ _ _ _ us hl => match us, hl with | [_], _ => rfl)
  have o_is_figures := own_of Fis_figures (ok_is_figures (P := P) (w := w) (mg := mg) (base := base)  Fis_figures T) (glo_ok X G (c.t.d.fact 18 (f := .glo "is_figures") rfl)) (fun _ _ _ _ _ _ us hl => match us, hl with | [_, _], _ => rfl)
  have o_is_name := own_of Fis_name (ok_is_name (P := P) (w := w) (mg := mg) (base := base)  Fis_name T mI_MOST_LETTERS) (glo_ok X G (c.t.d.fact 17 (f := .glo "is_name") rfl)) (fun _ _ _ _ _ _ us hl => match us, hl with | [_], _ => rfl)
  have o_words_of := own_of Fwords_of (ok_words_of (P := P) (w := w) (mg := mg) (base := base)  Fwords_of T o_is_wordly) (glo_ok X G (c.t.d.fact 19 (f := .glo "words_of") rfl)) (fun _ _ _ _ _ _ us hl => match us, hl with | [_], _ => rfl)
  have o_goes_ahead := own_of Fgoes_ahead (ok_goes_ahead (P := P) (w := w) (mg := mg) (base := base)  Fgoes_ahead mS_BRACKET m_STRONG hS) (glo_ok X G (c.t.d.fact 21 (f := .glo "goes_ahead") rfl)) (fun _ _ _ _ _ _ us hl => match us, hl with | [_, _], _ => rfl)
  have d_Reader := ownC_of FReader___init (ok_Reader___init (P := P) (w := w) (mg := mg) (base := base)  FReader___init KR) mk_Reader (glo_ok X G (c.t.d.fact 16 (f := .glo "Reader") rfl)) (fun _ _ _ _ _ _ us hl => match us, hl with | [_], _ => rfl)
  have o_Reader__fold := ownM_of FReader__fold (ok_Reader__fold (P := P) (w := w) (mg := mg) (base := base)  FReader__fold KR o_goes_ahead) mt_Reader__fold cl_Reader (fun _ _ _ _ _ _ us hl => match us, hl with | [_, _], _ => rfl)
  have o_Reader__begin := ownM_of FReader__begin (ok_Reader__begin (P := P) (w := w) (mg := mg) (base := base)  FReader__begin KR T mS_BRACKET mI_MOST_FIGURES o_is_name o_is_figures) mt_Reader__begin cl_Reader (fun _ _ _ _ _ _ us hl => match us, hl with | [_, _], _ => rfl)
  have o_Reader__close := ownM_of FReader__close (ok_Reader__close (P := P) (w := w) (mg := mg) (base := base)  FReader__close KR o_Reader__fold) mt_Reader__close cl_Reader (fun _ _ _ _ _ _ us hl => match us, hl with | [_], _ => rfl)
  have o_Reader__join := ownM_of FReader__join (ok_Reader__join (P := P) (w := w) (mg := mg) (base := base)  FReader__join KR mI_MOST_PARTS o_Reader__fold) mt_Reader__join cl_Reader (fun _ _ _ _ _ _ us hl => match us, hl with | [_, _], _ => rfl)
  have o_Reader__go_on := ownM_of FReader__go_on (ok_Reader__go_on (P := P) (w := w) (mg := mg) (base := base)  FReader__go_on KR mI_MOST_PARTS m_KINDS DK hK o_Reader__close o_Reader__join) mt_Reader__go_on cl_Reader (fun _ _ _ _ _ _ us hl => match us, hl with | [_, _], _ => rfl)
  have o_Reader__exponent := ownM_of FReader__exponent (ok_Reader__exponent (P := P) (w := w) (mg := mg) (base := base)  FReader__exponent KR T mI_MOST_FIGURES o_is_figures) mt_Reader__exponent cl_Reader (fun _ _ _ _ _ _ us hl => match us, hl with | [_, _], _ => rfl)
  have o_Reader_take := ownM_of FReader_take (ok_Reader_take (P := P) (w := w) (mg := mg) (base := base)  FReader_take KR o_Reader__begin o_Reader__go_on o_Reader__exponent) mt_Reader_take cl_Reader (fun _ _ _ _ _ _ us hl => match us, hl with | [_, _], _ => rfl)
  have o_Reader_ended := ownM_of FReader_ended (ok_Reader_ended (P := P) (w := w) (mg := mg) (base := base)  FReader_ended KR o_Reader__fold) mt_Reader_ended cl_Reader (fun _ _ _ _ _ _ us hl => match us, hl with | [_], _ => rfl)
  have o_read := own_of Fread (ok_read (P := P) (w := w) (mg := mg) (base := base)  Fread T d_Reader o_words_of o_Reader_take o_Reader_ended x_BadText fI_BadText bI_BadText) (glo_ok X G (c.t.d.fact 22 (f := .glo "read") rfl)) (fun _ _ _ _ _ _ us hl => match us, hl with | [_], _ => rfl)
  have o_law_letters := own_of Flaw_letters (ok_law_letters (P := P) (w := w) (mg := mg) (base := base)  Flaw_letters) (glo_ok X G (c.t.d.fact 30 (f := .glo "_law_letters") rfl)) (fun _ _ _ _ _ _ us hl => match us, hl with | [], _ => rfl)
  have o_law_fresh := own_of Flaw_fresh (ok_law_fresh (P := P) (w := w) (mg := mg) (base := base)  Flaw_fresh T o_s_law_of o_law_letters) (glo_ok X G (c.t.d.fact 31 (f := .glo "_law_fresh") rfl)) (fun _ _ _ _ _ _ us hl => match us, hl with | [_, _], _ => rfl)
  have o_law_tree := own_of Flaw_tree (ok_tree5 (P := P) (w := w) (mg := mg) (base := base)  Flaw_tree T (glo_ok X G (c.t.d.fact 32 (f := .glo "_law_tree") rfl)) o_law_take o_law_of) (glo_ok X G (c.t.d.fact 32 (f := .glo "_law_tree") rfl)) (fun _ _ _ _ _ _ us hl => match us, hl with | [_, _, _], _ => rfl)
  have o_law_signs := own_of Flaw_signs (ok_law_signs (P := P) (w := w) (mg := mg) (base := base)  Flaw_signs) (glo_ok X G (c.t.d.fact 33 (f := .glo "_law_signs") rfl)) (fun _ _ _ _ _ _ us hl => match us, hl with | [], _ => rfl)
  have o_law_text := own_of Flaw_text (ok_ts5 (P := P) (w := w) (mg := mg) (base := base)  Flaw_text Flaw_shut T (glo_ok X G (c.t.d.fact 35 (f := .glo "_law_text") rfl)) (glo_ok X G (c.t.d.fact 34 (f := .glo "_law_shut") rfl)) o_law_signs) (glo_ok X G (c.t.d.fact 35 (f := .glo "_law_text") rfl)) (fun _ _ _ _ _ _ us hl => match us, hl with | [_], _ => rfl)
  have o_write := own_of Fwrite (ok_write5 (P := P) (w := w) (mg := mg) (base := base)  Fwrite Fbracketed T (glo_ok X G (c.t.d.fact 23 (f := .glo "write") rfl)) (glo_ok X G (c.t.d.fact 24 (f := .glo "bracketed") rfl)) m_SIGNS m_WEAK hG kG hW) (glo_ok X G (c.t.d.fact 23 (f := .glo "write") rfl)) (fun _ _ _ _ _ _ us hl => match us, hl with | [_], _ => rfl)
  have o_law_without := own_of Flaw_without (ok_law_without (P := P) (w := w) (mg := mg) (base := base)  Flaw_without T) (glo_ok X G (c.t.d.fact 36 (f := .glo "_law_without") rfl)) (fun _ _ _ _ _ _ us hl => match us, hl with | [_], _ => rfl)
  have G_law_why := ok_why (P := P) (w := w) (mg := mg) (base := base) (kl := 7) Flaw_why (glo_ok X G (c.t.d.fact 29 (f := .glo "_law_why") rfl)) M8
  exact ok_law (c := cOf K) Flaw (code_of (p := ("law", none)) Flaw) TB_law hmT0 hu0 T hC_BadText w_BadText v_BadText o_law_begin o_law_take o_law_fresh o_law_tree o_law_text o_write o_law_without o_law_same G_law_why o_read
end
end Xk
end
set_option Elab.async false
set_option linter.all false
set_option maxRecDepth 100000
set_option maxHeartbeats 0
open PySem PySem.W PySem.Calls PyProof.Rows
theorem PySem.Challenge.cw_rungfields_k53_formulas_written_holds : PySem.Challenge.rw_rungfields_k53_formulas_written.Holds := by
  w_on; o_law
  refine HandSHeadRun.head_any (r := OpenLaw.row PySem.Challenge.rw_rungfields_k53_formulas_written) (q := view (OpenLaw.row PySem.Challenge.rw_rungfields_k53_formulas_written).prog [46]) (H := Xk.hk) (ob := Xk.ob) (M := 24000) (loose := Xk.loL) (d := HandSHeadRun.topDef (OpenLaw.row PySem.Challenge.rw_rungfields_k53_formulas_written).prog 46) (kwd := []) Xk.ob_eq
    (by kernel_rfl) (fun s => by kernel_rfl) Xk.run (by kernel_rfl) (by kernel_rfl) (by kernel_rfl) (by rfl) (by first | assumption | decide +kernel) (by decide +kernel) ⟨rfl, rfl, rfl, rfl, rfl, by decide +kernel⟩ ?hw ?hc
  case hw => w_witness2
  case hc =>
    refine LamX.walk_ofTsE (l := PySem.Challenge.rw_rungfields_k53_formulas_written) (n := 63) (k := 14) (x := "_law_script") (CX := fun _ => L2.CX0) rfl (by decide) (by kernel_rfl) ⟨rfl, by decide, by decide⟩ ?F (fun _ _ _ _ _ z => z)
    intro w mg fa h Y G hmg0
    obtain ⟨K, KX, c⟩ := Y
    have hmg : mg ("law" : PySem.Str) = some (.ref fa) := by
      have e : (HandSHeadRun.topDef (OpenLaw.row PySem.Challenge.rw_rungfields_k53_formulas_written).prog 46).name = ("law" : PySem.Str) := by kernel_rfl
      rw [← e]
      exact hmg0
    obtain ⟨fd, hb, hF⟩ := Xk.facts (P := (PySem.Challenge.rw_rungfields_k53_formulas_written).prog) (w := w) KX G hmg c
    have m1 : (("law", none) : He.Defn) ∈ ([("law", none)] : List He.Defn) := List.mem_cons_self
    refine ⟨K, KX, fd, [He.cT K ("law", none)], Xk.spLaw K (He.cT K ("law", none)).2, ?_, ?_, ?_, hb, ?_, ?_⟩
    · intro p hp
      rw [List.mem_singleton.mp hp]
      exact c.empty _ m1
    · intro p hp
      rw [List.mem_singleton.mp hp]
      exact c.out _ m1
    · intro p hp
      rw [List.mem_singleton.mp hp]
      exact PySem.W.codeHd_of_K KX (c.hd _ m1)
    · intro H a ns hl _ hT hS
      refine ⟨a, ns, rfl, hS, fun p hp => ?_, fun _ => rfl⟩
      rw [List.mem_singleton.mp hp]
      exact LamX.TabS.nil (hT _ (List.mem_cons_self))
    · intro base _ _ hTB
      exact hF base (hTB _ (List.mem_cons_self))
